"""What the modules tell fits together, promise [2], and equal calls return equal results, promise [3]."""

import unittest

from claims import is_true
from meetrounds.books import Book
from meetrounds.certificates import certify_front, certify_kept, certify_late, certify_load
from meetrounds.changes import helping
from meetrounds.checker import accepts
from meetrounds.curve import curve, most_front
from meetrounds.errors import Broken, TooFewRounds
from meetrounds.fairs import Fair
from meetrounds.front import front_range, is_front, some_front
from meetrounds.growth import grown
from meetrounds.halls import Hall
from meetrounds.kept import keeping, kept, kept_range
from meetrounds.loads import binding, load, tables_needed
from meetrounds.schedules import fits, is_even, round_at, schedule
from meetrounds.urgent import first_rounds, front
from plain import (
    MOST, any_first, any_rounds, any_within, combined, great_cases, is_inside, minus, nothing, pairs_of, small_cases,
    sum_of,
)


def some_cases(many, seed):
    """So many fairs with meetings, numbers of rounds and of first rounds, and a pair."""
    for fair, meetings, source in great_cases(many, seed):
        rounds = any_rounds(source, load(fair, meetings))
        yield fair, meetings, rounds, any_first(source, rounds), source.choice(list(pairs_of(fair))), source


class WholeTest(unittest.TestCase):
    def test_rounds(self):
        for fair, meetings, rounds, _, _, _ in some_cases(60, 111):
            least = load(fair, meetings)
            self.assertTrue(fits(fair, meetings, schedule(fair, meetings)))
            self.assertTrue(is_even(schedule(fair, meetings, rounds)))
            self.assertEqual(sum_of(meetings), kept(fair, meetings, least))
            if least:
                self.assertLess(kept(fair, meetings, least - 1), sum_of(meetings))
                self.assertIn(binding(fair, meetings)[0], ("host", "guest", "tables"))
                self.assertRaises(TooFewRounds, schedule, fair, meetings, least - 1)
            tables = tables_needed(fair, meetings, rounds)
            for number in (tables, tables - 1):
                if 1 <= number <= 12:
                    enough = load(Fair(fair.hosts, fair.guests, number), meetings) <= rounds
                    self.assertIs(number == tables, enough)

    def test_the_most_in_first_rounds_is_the_most_kept_in_so_many(self):
        for fair, meetings, rounds, first, _, _ in some_cases(80, 112):
            self.assertEqual(kept(fair, meetings, first), most_front(fair, meetings, rounds, first))
            for begin, base, slope in curve(fair, meetings, rounds):
                self.assertEqual(kept(fair, meetings, begin), base + slope * begin)

    def test_first_rounds_of_schedules_are_fronts(self):
        for fair, meetings, rounds, _, (row, column, host, guest), _ in some_cases(60, 113):
            first, table = 0, nothing(fair)
            for block, times in schedule(fair, meetings, rounds):
                first, table = first + times, combined(table, block, lambda many, more: many + times * more)
                self.assertTrue(is_front(fair, meetings, rounds, first, table))
                least, most = front_range(fair, meetings, rounds, first, host, guest)
                self.assertTrue(least <= table[row][column] <= most)
                self.assertLessEqual(sum_of(table), most_front(fair, meetings, rounds, first))
                self.assertLessEqual(first_rounds(fair, meetings, rounds, table), first)

    def test_urgent_meetings_of_one_pair(self):
        for fair, meetings, rounds, first, (row, column, host, guest), source in some_cases(80, 114):
            many = source.randrange(meetings[row][column] + 1)
            urgent = [[0] * len(fair.guests) for _ in fair.hosts]
            urgent[row][column] = many
            urgent = tuple(map(tuple, urgent))
            told = first_rounds(fair, meetings, rounds, urgent)
            self.assertGreaterEqual(front_range(fair, meetings, rounds, told, host, guest)[1], many)
            if told:
                self.assertLess(front_range(fair, meetings, rounds, told - 1, host, guest)[1], many)
            most = front_range(fair, meetings, rounds, first, host, guest)[1]
            self.assertIs(told <= first, most >= many)

    def test_urgent_tables_and_fronts(self):
        for fair, meetings, rounds, first, (_, _, host, guest), source in some_cases(60, 115):
            most = front_range(fair, meetings, rounds, first, host, guest)[1]
            table = some_front(fair, meetings, rounds, first, host, guest, most)
            told = first_rounds(fair, meetings, rounds, table)
            self.assertLessEqual(told, first)
            other = front(fair, meetings, rounds, table)
            self.assertTrue(is_inside(table, other))
            self.assertTrue(is_front(fair, meetings, rounds, told, other))

    def test_best_tables_can_be_held(self):
        for fair, meetings, rounds, _, (row, column, host, guest), _ in some_cases(60, 116):
            few = rounds // 3
            table = keeping(fair, meetings, few)
            self.assertLessEqual(load(fair, table), few)
            self.assertEqual((kept(fair, meetings, few), True), (sum_of(table), is_inside(table, meetings)))
            least, most = kept_range(fair, meetings, few, host, guest)
            self.assertTrue(least <= table[row][column] <= most)
            self.assertTrue(fits(fair, table, schedule(fair, table, few)))
            self.assertEqual(table, keeping(fair, table, few))

    def test_rounds_that_are_held_leave_the_rest_of_a_schedule(self):
        for fair, meetings, rounds, first, _, _ in some_cases(40, 117):
            hall = Hall(fair, meetings)
            for table, times in schedule(fair, meetings):
                hall.hold(table, min(times, MOST))
                self.assertEqual((0, hall.load()), (hall.lost(), load(fair, hall.left)))
                done = minus(meetings, hall.left)
                self.assertTrue(is_front(fair, meetings, hall.held + hall.load(), hall.held, done))
            if meetings != nothing(fair):
                table = round_at(fair, schedule(fair, meetings), 0)
                with Hall(fair, meetings).trial() as hall:
                    hall.hold(table)
                    self.assertEqual(load(fair, meetings) - 1, hall.load())

    def test_growth_and_loads(self):
        for fair, _, _, _, _, source in some_cases(60, 118):
            start = tuple(tuple(source.randrange(10) for _ in fair.guests) for _ in fair.hosts)
            growth = tuple(tuple(source.randrange(4) for _ in fair.guests) for _ in fair.hosts)
            early, period, rise = grown(fair, start, growth)
            for step in (0, len(early) - 1, 10 ** 29 - 4):
                meetings = combined(start, growth, lambda many, more: many + step * more)
                times = max(0, -(-(step - len(early) + 1) // period))
                self.assertEqual(early[step - times * period] + times * rise, load(fair, meetings))

    def test_changes_and_loads(self):
        for fair, meetings, _, _, _, source in some_cases(60, 119):
            changes = tuple((name, source.randrange(1, 5)) for name in fair.names[:4]) + (("tables", 7),)
            rounds = load(fair, meetings) // source.randrange(1, 3)
            for one in helping(fair, changes, ((meetings, rounds),)):
                new = dict(changes[index] for index in one)
                tables = new.pop("tables", fair.tables)
                hosts = tuple((name, new.get(name, bound)) for name, bound in fair.hosts)
                guests = tuple((name, new.get(name, bound)) for name, bound in fair.guests)
                self.assertLessEqual(load(Fair(hosts, guests, tables), meetings), rounds)
            self.assertEqual(((),), helping(fair, changes, ((meetings, load(fair, meetings)),)))

    def test_wishes_of_what_the_modules_tell(self):
        for fair, meetings, rounds, first, (_, _, host, guest), source in some_cases(40, 120):
            urgent = any_within(source, meetings)
            most = front_range(fair, meetings, rounds, first, host, guest)[1]
            least = first_rounds(fair, meetings, rounds, urgent)
            book = Book()
            book["f"] = fair
            book.wish(("load", "f", meetings, load(fair, meetings)))
            book.wish(("front", "f", meetings, rounds, first, host, guest, most))
            book.wish(("urgent", "f", meetings, rounds, urgent, least))
            book.wish(("kept", "f", meetings, rounds // 2, kept(fair, meetings, rounds // 2)))
            book["f"] = Fair.read(str(book["f"]))
            self.assertEqual((6, 4), (book.changes, len(book.wishes)))
            if least:
                self.assertRaises(Broken, book.wish, ("urgent", "f", meetings, rounds, urgent, least - 1))
                claim, lot = certify_late(fair, meetings, rounds, urgent)
                self.assertEqual(least - 1, claim[5])
            self.assertEqual((6, 4), (book.changes, len(book.wishes)))

    def test_claims_of_small_fairs_are_true(self):
        for fair, meetings in list(small_cases())[::4]:
            rounds = load(fair, meetings) + 1
            papers = [certify_load(fair, meetings), certify_kept(fair, meetings, rounds - 2 if rounds > 1 else 0)]
            for _, _, host, guest in pairs_of(fair):
                papers.append(certify_front(fair, meetings, rounds, rounds // 2, host, guest))
            papers.append(certify_late(fair, meetings, rounds, meetings) or papers[0])
            for claim, certificate in papers:
                self.assertTrue(is_true(claim))
                self.assertTrue(accepts(claim, certificate))

    def test_equal_calls_return_equal_results(self):
        for fair, meetings, rounds, first, (_, _, host, guest), source in some_cases(25, 121):
            urgent = any_within(source, meetings)
            again = Fair.read(str(fair)), tuple(tuple(int(str(many)) for many in row) for row in meetings)
            text, before = str(fair), repr(meetings)
            for call, rest in (
                (load, ()), (binding, ()), (schedule, (rounds,)), (curve, (rounds,)), (tables_needed, (rounds,)),
                (front_range, (rounds, first, host, guest)), (first_rounds, (rounds, urgent)),
                (front, (rounds, urgent)), (keeping, (rounds // 2,)), (kept_range, (rounds // 2, host, guest)),
                (certify_load, ()), (certify_kept, (rounds // 2,)), (certify_front, (rounds, first, host, guest)),
                (certify_late, (rounds, urgent)),
            ):
                told = call(fair, meetings, *rest)
                self.assertEqual(told, call(fair, meetings, *rest))
                self.assertEqual(told, call(*again, *rest))
            self.assertEqual((text, before), (str(fair), repr(meetings)))


if __name__ == "__main__":
    unittest.main()
