"""First rounds, promises [10] and [15] and the interface of meetrounds.front."""

import unittest

from meetrounds import front
from meetrounds.errors import InvalidNumber, TooFewRounds
from meetrounds.fairs import Fair
from meetrounds.front import front_range, is_front, some_front
from meetrounds.schedules import round_at, schedule
from odd import GREAT, ODD, EqualToAll, Touchy
from plain import (
    MOST, SCHOOL, WIDE, Search, any_first, any_rounds, bounds_by_time, combined, fair_of, great_cases, is_possible,
    keeps_within, load_of, minus, nothing, pairs_of, plus, range_by_lots, small_cases, sum_of, tables_within,
)
from wrong import MEETINGS, NO_NUMBERS, WRONG_NUMBERS, WrongCase, wrong_tables

PLANNED = {"fair": SCHOOL, "meetings": MEETINGS, "rounds": 6, "first": 2}
RIGHT_VALUE = {**PLANNED, "value": ((1, 1), (0, 2))}
RIGHT_PAIR = {**PLANNED, "host": "ann", "guest": "x"}
RIGHT_MANY = {**RIGHT_PAIR, "many": 1}
WRONG_FIRST = WRONG_NUMBERS + (7, 8, GREAT)


def plans(cases):
    """The cases with numbers of rounds from the load on and all numbers of first rounds."""
    for fair, meetings in cases:
        load = load_of(fair, meetings)
        for rounds in (load, load + 1, load + 3):
            for first in range(rounds + 1):
                yield fair, meetings, rounds, first


class SmallFrontTest(WrongCase):
    def test_the_examples_of_the_document(self):
        self.assertEqual((0, 1), front_range(SCHOOL, ((3, 2), (1, 4)), 5, 1, "ann", "x"))
        self.assertEqual((2, 3), front_range(SCHOOL, ((3, 2), (1, 4)), 5, 3, "bob", "y"))
        self.assertEqual((2, 2), front_range(SCHOOL, ((3, 0), (0, 3)), 3, 2, "ann", "x"))
        self.assertEqual((0, 0), front_range(SCHOOL, ((3, 0), (0, 3)), 3, 2, "bob", "x"))
        self.assertEqual(((1, 0), (0, 1)), some_front(SCHOOL, ((3, 0), (0, 3)), 3, 1, "ann", "x", 1))
        self.assertIsNone(some_front(SCHOOL, ((3, 0), (0, 3)), 3, 1, "ann", "x", 0))
        self.assertIs(True, is_front(SCHOOL, ((3, 2), (1, 4)), 5, 2, ((1, 1), (0, 2))))
        self.assertIs(False, is_front(SCHOOL, ((3, 2), (1, 4)), 5, 2, ((2, 0), (1, 1))))

    def test_each_table_against_a_search_through_all_rounds(self):
        for fair, meetings in small_cases():
            search = Search(fair, meetings)
            more = combined(meetings, meetings, lambda many, _: many + (len(fair.names) < 4))
            tables = tables_within(more)
            for _, _, rounds, first in plans([(fair, meetings)]):
                fronts = search.fronts(rounds, first)
                with self.subTest(fair=str(fair), meetings=meetings, rounds=rounds, first=first):
                    told = {table for table in tables if is_front(fair, meetings, rounds, first, table) is True}
                    self.assertEqual(fronts, told)
                    for table in tables[:3] + tables[-3:]:
                        self.assertIs(table in fronts, is_front(fair, meetings, rounds, first, table))

    def test_each_range_against_a_search_through_all_rounds(self):
        for fair, meetings in small_cases():
            search = Search(fair, meetings)
            for _, _, rounds, first in plans([(fair, meetings)]):
                fronts = search.fronts(rounds, first)
                for row, column, host, guest in pairs_of(fair):
                    numbers = sorted({table[row][column] for table in fronts})
                    with self.subTest(fair=str(fair), meetings=meetings, rounds=rounds, first=first, at=(row, column)):
                        told = front_range(fair, meetings, rounds, first, host, guest)
                        self.assertEqual((numbers[0], numbers[-1]), told)
                        self.assertEqual((tuple, int, int), (type(told), *map(type, told)))
                        for many in range(meetings[row][column] + 2):
                            table = some_front(fair, meetings, rounds, first, host, guest, many)
                            if many in numbers:
                                self.assertIn(table, fronts)
                                self.assertEqual(many, table[row][column])
                            else:
                                self.assertIsNone(table)

    def test_no_first_rounds_and_all_of_them(self):
        for fair, meetings in small_cases():
            for rounds in (load_of(fair, meetings), load_of(fair, meetings) + 2):
                self.assertIs(True, is_front(fair, meetings, rounds, 0, nothing(fair)))
                self.assertIs(True, is_front(fair, meetings, rounds, rounds, meetings))
                if sum_of(meetings):
                    self.assertIs(False, is_front(fair, meetings, rounds, 0, meetings))
                    self.assertIs(False, is_front(fair, meetings, rounds, rounds, nothing(fair)))
                for row, column, host, guest in pairs_of(fair):
                    many = meetings[row][column]
                    self.assertEqual((0, 0), front_range(fair, meetings, rounds, 0, host, guest))
                    self.assertEqual((many, many), front_range(fair, meetings, rounds, rounds, host, guest))
                    self.assertEqual(nothing(fair), some_front(fair, meetings, rounds, 0, host, guest, 0))
                    self.assertEqual(meetings, some_front(fair, meetings, rounds, rounds, host, guest, many))


class GreatFrontTest(WrongCase):
    def assert_range(self, fair, meetings, rounds, first, pair):
        """The range of a pair is what the lots of places tell, and its ends come and no number beyond them."""
        row, column, host, guest = pair
        bounds = bounds_by_time(fair, meetings, rounds, first)
        least, most = front_range(fair, meetings, rounds, first, host, guest)
        told = range_by_lots(len(fair.hosts), len(fair.guests), bounds, (row, column))
        self.assertEqual(told, (least, most))
        for many in (least, most, (least + most) // 2, min(most, least + 1)):
            table = some_front(fair, meetings, rounds, first, host, guest, many)
            self.assertEqual(many, table[row][column])
            self.assertTrue(keeps_within(table, bounds))
            self.assertIs(True, is_front(fair, meetings, rounds, first, table))
        for many in (most + 1, GREAT) + ((least - 1,) if least else ()):
            self.assertIsNone(some_front(fair, meetings, rounds, first, host, guest, many))

    def test_ranges(self):
        for fair, meetings, source in great_cases(120, 12):
            rounds = any_rounds(source, load_of(fair, meetings))
            first = any_first(source, rounds)
            pair = source.choice(list(pairs_of(fair)))
            with self.subTest(fair=str(fair), meetings=meetings, rounds=rounds, first=first, pair=pair):
                self.assert_range(fair, meetings, rounds, first, pair)

    def test_each_pair_of_four_hosts_and_four_guests(self):
        meetings = tuple(tuple(MOST // (2 + row + 3 * column) for column in range(4)) for row in range(4))
        for tables in (None, 7):
            fair = fair_of((4, 3, 2, 4), (3, 3, 4, 2), tables)
            load = load_of(fair, meetings)
            for pair in pairs_of(fair):
                self.assert_range(fair, meetings, load, load // 2, pair)

    def test_tables_at_the_bounds_by_time(self):
        for fair, meetings, source in great_cases(120, 13):
            rounds = any_rounds(source, load_of(fair, meetings))
            first = any_first(source, rounds)
            bounds = bounds_by_time(fair, meetings, rounds, first)
            row, column, host, guest = source.choice(list(pairs_of(fair)))
            least, most = front_range(fair, meetings, rounds, first, host, guest)
            for many in (least, most):
                table = some_front(fair, meetings, rounds, first, host, guest, many)
                for at, to, _, _ in pairs_of(fair):
                    one = tuple(tuple(int((at, to) == (i, j)) for j in range(len(row))) for i, row in enumerate(table))
                    for near in (plus(table, one), minus(table, one)):
                        right = keeps_within(near, bounds)
                        self.assertIs(right, is_front(fair, meetings, rounds, first, near))

    def test_the_first_rounds_of_made_schedules(self):
        for fair, meetings, source in great_cases(60, 14):
            rounds = any_rounds(source, load_of(fair, meetings))
            plan = schedule(fair, meetings, rounds)
            front_table = nothing(fair)
            first = 0
            for table, times in plan:
                self.assertIs(True, is_front(fair, meetings, rounds, first, front_table))
                self.assertEqual(table, round_at(fair, plan, first))
                many = combined(table, table, lambda number, _: number * times)
                front_table = plus(front_table, many)
                first += times
            self.assertEqual((rounds, meetings), (first, front_table))
            self.assertIs(True, is_front(fair, meetings, rounds, first, front_table))

    def test_a_table_is_one_just_if_no_lot_is_closed_off(self):
        for fair, meetings, source in great_cases(60, 15):
            rounds = any_rounds(source, load_of(fair, meetings))
            first = any_first(source, rounds)
            row, column, host, guest = source.choice(list(pairs_of(fair)))
            bounds = bounds_by_time(fair, meetings, rounds, first)
            many = source.randrange(meetings[row][column] + 1)
            bounds[row, column] = (many, many)
            found = some_front(fair, meetings, rounds, first, host, guest, many)
            self.assertEqual(is_possible(len(fair.hosts), len(fair.guests), bounds), found is not None)

    def test_meetings_that_can_not_wait(self):
        fair = fair_of((1,), (4,), 12)
        for many in (1, 2, MOST):
            for first in {0, 1, many // 2, many - 1, many}:
                self.assertEqual((first, first), front_range(fair, ((many,),), many, first, "a", "w"))
                self.assertEqual((max(0, first - 1), first), front_range(fair, ((many,),), many + 1, first, "a", "w"))
                self.assertEqual((0, min(many, first)), front_range(fair, ((many,),), GREAT, first, "a", "w"))


class FrontErrorsTest(WrongCase):
    def test_any_value_is_looked_at(self):
        odd = [value for value in ODD if not isinstance(value, int)]
        for value in odd + [value for value, _ in wrong_tables()] + [EqualToAll(), Touchy(), True, GREAT, SCHOOL]:
            with self.subTest(kind=type(value)):
                self.assertIs(False, is_front(SCHOOL, MEETINGS, 5, 2, value))
                self.assertIs(False, is_front(SCHOOL, MEETINGS, 9, 9, value))
                self.assertIs(False, is_front(SCHOOL, ((0, 0), (0, 0)), 5, 2, value))

    def test_tables_of_another_size_or_beyond_the_meetings(self):
        for value in (((0,),), ((0, 0),), ((0, 0), (0, 0), (0, 0)), ((0, 0, 0), (0, 0, 0)), ((0,), (0,))):
            self.assertIs(False, is_front(SCHOOL, MEETINGS, 9, 2, value))
        self.assertIs(True, is_front(SCHOOL, MEETINGS, 90, 60, MEETINGS))
        for value in (((4, 2), (1, 4)), ((3, 3), (1, 4)), ((3, 2), (2, 4)), ((3, 2), (1, 5)), ((GREAT, 0), (0, 0))):
            self.assertIs(False, is_front(SCHOOL, MEETINGS, 90, 60, value))

    def test_wrong_arguments(self):
        for call, right in ((is_front, RIGHT_VALUE), (front_range, RIGHT_PAIR), (some_front, RIGHT_MANY)):
            self.assert_all(call, right)
            self.assert_given(InvalidNumber, "first", WRONG_FIRST, call, right)
        self.assert_given(InvalidNumber, "many", WRONG_NUMBERS, some_front, RIGHT_MANY)

    def test_the_order_of_errors(self):
        for call, right in ((is_front, RIGHT_VALUE), (front_range, RIGHT_PAIR), (some_front, RIGHT_MANY)):
            self.assert_order(call, right)
            self.assert_too_few(call, right)
        for value in NO_NUMBERS:
            self.assert_error(TooFewRounds, 5, is_front, SCHOOL, MEETINGS, 4, 2, value)
            self.assert_error(InvalidNumber, 3, is_front, SCHOOL, MEETINGS, 2, 3, value)

    def test_numbers_that_never_come_are_no_errors(self):
        for many in (4, 5, MOST, MOST + 1, GREAT):
            self.assertIsNone(some_front(SCHOOL, MEETINGS, 5, 5, "ann", "x", many))
            self.assertIsNone(some_front(SCHOOL, ((0, 0), (0, 0)), 0, 0, "ann", "x", many))

    def test_fewer_rounds_than_the_load(self):
        for fair, meetings, _ in great_cases(30, 16):
            load = load_of(fair, meetings)
            if load:
                named = {"fair": fair, "meetings": meetings, "rounds": load - 1, "first": 0}
                pair = {"host": fair.hosts[0][0], "guest": fair.guests[0][0]}
                self.assert_error(TooFewRounds, load, is_front, **named, value=nothing(fair))
                self.assert_error(TooFewRounds, load, front_range, **named, **pair)
                self.assert_error(TooFewRounds, load, some_front, **named, **pair, many=0)

    def test_arguments_by_position_and_by_name(self):
        again = {"fair": Fair.read(str(SCHOOL)), "meetings": ((3, 2), (1, 4)), "rounds": 6, "first": 2}
        for call, right in ((is_front, RIGHT_VALUE), (front_range, RIGHT_PAIR), (some_front, RIGHT_MANY)):
            told = call(*right.values())
            self.assertEqual(told, call(**dict(reversed(right.items()))))
            self.assertEqual(told, call(**{**right, **again}))
            self.assertEqual("meetrounds.front", getattr(front, call.__name__).__module__)
        self.assertIs(True, is_front(*RIGHT_VALUE.values()))
        self.assertIs(True, is_front(WIDE, MEETINGS, 10, 10, MEETINGS))

    def test_names_like_numbers_of_others(self):
        fair = Fair((("b", 1), ("a", 2)), (("z", 1), ("y", 2), ("x", 3)))
        meetings = ((1, 2, 3), (4, 5, 6))
        for row, column, host, guest in pairs_of(fair):
            many = meetings[row][column]
            self.assertEqual((many, many), front_range(fair, meetings, 50, 50, host, guest))


if __name__ == "__main__":
    unittest.main()
