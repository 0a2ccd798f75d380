"""Meetings that are kept, promise [12] and the interface of meetrounds.kept."""

import unittest

from meetrounds import kept as kept_file
from meetrounds.fairs import Fair
from meetrounds.kept import keeping, kept, kept_range
from meetrounds.loads import load
from odd import GREAT
from plain import (
    MOST, SCHOOL, WIDE, any_rounds, fair_of, great_cases, is_inside, kept_bounds, load_of, nothing, pairs_of,
    range_by_lots, small_cases, sum_of, tables_within,
)
from wrong import MEETINGS, WrongCase

RIGHT = {"fair": SCHOOL, "meetings": MEETINGS, "rounds": 3}
RIGHT_PAIR = {**RIGHT, "host": "ann", "guest": "x"}


def few_rounds(source, meetings_load):
    """Any number of rounds, mostly fewer than the load."""
    return source.choice((0, 1, source.randrange(meetings_load + 1), meetings_load // 2, max(0, meetings_load - 1)))


class KeptTest(WrongCase):
    def assert_kept(self, fair, meetings, rounds):
        """So many meetings can be kept and no more, and the best table is one; returns how many these are."""
        most = kept(fair, meetings, rounds)
        self.assertIs(int, type(most))
        bounds = kept_bounds(fair, meetings, rounds)
        self.assertEqual(range_by_lots(len(fair.hosts), len(fair.guests), bounds, "sum")[1], most)
        table = keeping(fair, meetings, rounds)
        self.assertTrue(is_inside(nothing(fair), table))
        self.assertTrue(is_inside(table, meetings))
        self.assertEqual(most, sum_of(table))
        self.assertLessEqual(load_of(fair, table), rounds)
        return most

    def assert_ranges(self, fair, meetings, rounds, pairs):
        """Each of these pairs meets so often in best tables as the lots tell."""
        bounds = kept_bounds(fair, meetings, rounds)
        most = kept(fair, meetings, rounds)
        bounds["sum"] = (most, most)
        for row, column, host, guest in pairs:
            told = range_by_lots(len(fair.hosts), len(fair.guests), bounds, (row, column))
            self.assertEqual(told, kept_range(fair, meetings, rounds, host, guest))

    def test_the_examples_of_the_document(self):
        self.assertEqual(6, kept(SCHOOL, ((3, 2), (1, 4)), 3))
        self.assertEqual(10, kept(SCHOOL, ((3, 2), (1, 4)), 9))
        self.assertEqual((1, 3), kept_range(SCHOOL, ((3, 2), (1, 4)), 3, "ann", "x"))
        self.assertEqual((3, 3), kept_range(SCHOOL, ((3, 2), (1, 4)), 5, "ann", "x"))
        self.assertEqual(((3, 2), (1, 4)), keeping(SCHOOL, ((3, 2), (1, 4)), 5))

    def test_against_all_tables(self):
        for fair, meetings in small_cases():
            tables = tables_within(meetings)
            for rounds in range(load_of(fair, meetings) + 2):
                possible = [table for table in tables if load_of(fair, table) <= rounds]
                most = max(map(sum_of, possible))
                best = [table for table in possible if sum_of(table) == most]
                with self.subTest(fair=str(fair), meetings=meetings, rounds=rounds):
                    self.assertEqual(most, kept(fair, meetings, rounds))
                    self.assertIn(keeping(fair, meetings, rounds), best)
                    for row, column, host, guest in pairs_of(fair):
                        numbers = sorted({table[row][column] for table in best})
                        self.assertEqual(list(range(numbers[0], numbers[-1] + 1)), numbers)
                        told = kept_range(fair, meetings, rounds, host, guest)
                        self.assertEqual((tuple, int, int), (type(told), *map(type, told)))
                        self.assertEqual((numbers[0], numbers[-1]), told)

    def test_great_meetings_against_the_lots(self):
        less = 0
        for fair, meetings, source in great_cases(90, 41):
            rounds = few_rounds(source, load_of(fair, meetings))
            pairs = source.sample(list(pairs_of(fair)), 1)
            with self.subTest(fair=str(fair), meetings=meetings, rounds=rounds, pairs=pairs):
                less += 0 < self.assert_kept(fair, meetings, rounds) < sum_of(meetings)
                self.assert_ranges(fair, meetings, rounds, pairs)
        self.assertGreater(less, 30)

    def test_all_pairs_of_four_hosts_and_four_guests(self):
        meetings = tuple(tuple(MOST // (2 + row + 3 * column) for column in range(4)) for row in range(4))
        for tables in (None, 7):
            fair = fair_of((4, 3, 1, 4), (3, 1, 4, 2), tables)
            self.assert_kept(fair, meetings, MOST // 5)
            self.assert_ranges(fair, meetings, MOST // 5, pairs_of(fair))

    def test_nothing_and_all_kept(self):
        for fair, meetings, source in great_cases(60, 42):
            row, column, host, guest = source.choice(list(pairs_of(fair)))
            self.assertEqual(0, kept(fair, meetings, 0))
            self.assertEqual(nothing(fair), keeping(fair, meetings, 0))
            self.assertEqual((0, 0), kept_range(fair, meetings, 0, host, guest))
            many = meetings[row][column]
            for rounds in (load_of(fair, meetings), any_rounds(source, load_of(fair, meetings)), GREAT):
                self.assertEqual(sum_of(meetings), kept(fair, meetings, rounds))
                self.assertEqual(meetings, keeping(fair, meetings, rounds))
                self.assertEqual((many, many), kept_range(fair, meetings, rounds, host, guest))

    def test_one_round_less_than_the_load_does_not_keep_all(self):
        for fair, meetings, _ in great_cases(60, 43):
            if sum_of(meetings):
                rounds = load(fair, meetings) - 1
                self.assertLess(self.assert_kept(fair, meetings, rounds), sum_of(meetings))
                self.assertEqual(sum_of(meetings), kept(fair, meetings, rounds + 1))

    def test_no_meetings(self):
        for fair in (SCHOOL, WIDE, fair_of((4,), (4,), 1), fair_of((1,) * 4, (1,) * 4, 12)):
            for rounds in (0, 1, GREAT):
                self.assertEqual(0, kept(fair, nothing(fair), rounds))
                self.assertEqual(nothing(fair), keeping(fair, nothing(fair), rounds))
                for _, _, host, guest in pairs_of(fair):
                    self.assertEqual((0, 0), kept_range(fair, nothing(fair), rounds, host, guest))

    def test_one_host_and_one_guest_at_the_edges(self):
        for bound in (1, 4):
            for tables in (None, 1, 12):
                fair = fair_of((bound,), (4,), tables)
                most = min(bound, tables or 4)
                for many in (0, 1, 3, 4, 5, MOST - 1, MOST):
                    for rounds in (0, 1, 2, MOST // 4 - 1, MOST // 4, MOST, GREAT):
                        told = min(many, most * rounds)
                        self.assertEqual(told, kept(fair, ((many,),), rounds))
                        self.assertEqual(((told,),), keeping(fair, ((many,),), rounds))
                        self.assertEqual((told, told), kept_range(fair, ((many,),), rounds, "a", "w"))

    def test_hosts_and_guests_and_tables_that_bind_together(self):
        # One host can't keep all, one guest can't, and between them the tables are too few, or they are not.
        meetings = ((9, 9), (9, 0))
        self.assertEqual(4, kept(fair_of((1, 4), (1, 4)), meetings, 2))
        self.assertEqual(4, kept(fair_of((1, 4), (1, 4), 3), meetings, 2))
        self.assertEqual(2, kept(fair_of((1, 4), (1, 4), 1), meetings, 2))
        self.assertEqual((0, 0), kept_range(fair_of((1, 4), (1, 4)), meetings, 2, "a", "w"))
        self.assertEqual((0, 2), kept_range(fair_of((1, 4), (1, 4), 1), meetings, 2, "a", "w"))


class KeptErrorsTest(WrongCase):
    def test_wrong_arguments(self):
        for call in (kept, keeping):
            self.assert_all(call, RIGHT)
        self.assert_all(kept_range, RIGHT_PAIR)

    def test_the_order_of_errors(self):
        for call, right in ((kept, RIGHT), (keeping, RIGHT), (kept_range, RIGHT_PAIR)):
            self.assert_order(call, right)
            self.assert_order(call, {**right, "rounds": 9})

    def test_arguments_by_position_and_by_name(self):
        again = {"fair": Fair.read(str(SCHOOL)), "meetings": ((3, 2), (1, 4)), "rounds": 3}
        for call, right in ((kept, RIGHT), (keeping, RIGHT), (kept_range, RIGHT_PAIR)):
            told = call(*right.values())
            self.assertEqual(told, call(**dict(reversed(right.items()))))
            self.assertEqual(told, call(**{**right, **again}))
            self.assertEqual("meetrounds.kept", getattr(kept_file, call.__name__).__module__)


if __name__ == "__main__":
    unittest.main()
