"""Urgent meetings, promise [11] and the interface of meetrounds.urgent."""

import unittest

from meetrounds import urgent as urgent_file
from meetrounds.errors import InvalidUrgent, TooFewRounds
from meetrounds.fairs import Fair
from meetrounds.front import is_front
from meetrounds.urgent import first_rounds, front
from odd import GREAT
from plain import (
    MOST, SCHOOL, WIDE, Search, any_rounds, any_within, bounds_by_time, fair_of, great_cases, is_inside, is_possible,
    keeps_within, load_of, nothing, small_cases, sum_of, tables_within, urgent_bounds,
)
from wrong import MEETINGS, NO_NUMBERS, WrongCase

RIGHT = {"fair": SCHOOL, "meetings": MEETINGS, "rounds": 6, "urgent": ((3, 0), (1, 0))}


class UrgentTest(WrongCase):
    def assert_urgent(self, fair, meetings, rounds, urgent):
        """So many first rounds are enough, one less is not, and the table that is told is one of them."""
        first = first_rounds(fair, meetings, rounds, urgent)
        self.assertIs(int, type(first))
        self.assertTrue(0 <= first <= rounds)
        hosts, guests = len(fair.hosts), len(fair.guests)
        self.assertTrue(is_possible(hosts, guests, urgent_bounds(fair, meetings, rounds, first, urgent)))
        if first:
            self.assertFalse(is_possible(hosts, guests, urgent_bounds(fair, meetings, rounds, first - 1, urgent)))
        table = front(fair, meetings, rounds, urgent)
        self.assertTrue(is_inside(urgent, table))
        self.assertTrue(keeps_within(table, bounds_by_time(fair, meetings, rounds, first)))
        self.assertIs(True, is_front(fair, meetings, rounds, first, table))
        return first

    def test_the_examples_of_the_document(self):
        self.assertEqual(3, first_rounds(SCHOOL, ((3, 2), (1, 4)), 5, ((3, 0), (0, 0))))
        self.assertEqual(4, first_rounds(SCHOOL, ((3, 2), (1, 4)), 5, ((3, 0), (1, 0))))
        self.assertEqual(0, first_rounds(SCHOOL, ((3, 2), (1, 4)), 5, ((0, 0), (0, 0))))
        self.assertEqual(((1, 0), (0, 1)), front(SCHOOL, ((1, 0), (0, 1)), 1, ((1, 0), (0, 0))))

    def test_against_a_search_through_all_rounds(self):
        for at, (fair, meetings) in enumerate(small_cases()):
            search = Search(fair, meetings)
            load = load_of(fair, meetings)
            for rounds in (load, load + 1, load + 3):
                fronts = [search.fronts(rounds, first) for first in range(rounds + 1)]
                for urgent in tables_within(meetings)[at % 4::4] + [meetings, nothing(fair)]:
                    enough = [first for first in range(rounds + 1)
                              if any(is_inside(urgent, table) for table in fronts[first])]
                    with self.subTest(fair=str(fair), meetings=meetings, rounds=rounds, urgent=urgent):
                        self.assertEqual(list(range(enough[0], rounds + 1)), enough)
                        self.assertEqual(enough[0], first_rounds(fair, meetings, rounds, urgent))
                        table = front(fair, meetings, rounds, urgent)
                        self.assertIn(table, fronts[enough[0]])
                        self.assertTrue(is_inside(urgent, table))

    def test_great_meetings_against_the_lots(self):
        more = 0
        for fair, meetings, source in great_cases(90, 31):
            rounds = source.choice((load_of(fair, meetings), any_rounds(source, load_of(fair, meetings))))
            urgent = any_within(source, meetings)
            with self.subTest(fair=str(fair), meetings=meetings, rounds=rounds, urgent=urgent):
                first = self.assert_urgent(fair, meetings, rounds, urgent)
                self.assertGreaterEqual(first, load_of(fair, urgent))
                more += first > load_of(fair, urgent)
        self.assertGreater(more, 3)

    def test_what_is_not_urgent_can_come_in_the_way(self):
        # All hosts and guests are busy in all rounds, so only two rounds are possible; one urgent meeting is in each.
        fair = fair_of((1, 1, 1), (1, 1, 1))
        for scale, tables in ((1, None), (7, 3), (MOST, 3)):
            fair = fair_of((1, 1, 1), (1, 1, 1), tables)
            meetings = ((scale, scale, 0), (0, scale, scale), (scale, 0, scale))
            urgent = ((scale, 0, 0), (0, 0, scale), (0, 0, 0))
            self.assertEqual(2 * scale, self.assert_urgent(fair, meetings, 2 * scale, urgent))
            self.assertEqual(2 * scale, self.assert_urgent(fair, meetings, 2 * scale, meetings))
            less = ((scale, 0, 0), (0, 0, scale // 2), (0, 0, 0))
            self.assertEqual(scale + scale // 2, self.assert_urgent(fair, meetings, 2 * scale, less))
            self.assertEqual(scale, self.assert_urgent(fair, meetings, 4 * scale, urgent))

    def test_nothing_urgent_and_all_of_it(self):
        for fair, meetings, source in great_cases(60, 32):
            load = load_of(fair, meetings)
            for rounds in (load, load + 1, 2 * load + 1, GREAT):
                self.assertEqual(0, first_rounds(fair, meetings, rounds, nothing(fair)))
                self.assertEqual(nothing(fair), front(fair, meetings, rounds, nothing(fair)))
                self.assertEqual(load, first_rounds(fair, meetings, rounds, meetings))
                self.assertEqual(meetings, front(fair, meetings, rounds, meetings))

    def test_no_meetings_and_no_rounds(self):
        for fair in (SCHOOL, WIDE, fair_of((4,), (4,), 1), fair_of((1,) * 4, (1,) * 4, 12)):
            for rounds in (0, 1, GREAT):
                self.assertEqual(0, first_rounds(fair, nothing(fair), rounds, nothing(fair)))
                self.assertEqual(nothing(fair), front(fair, nothing(fair), rounds, nothing(fair)))

    def test_one_host_and_one_guest_at_the_edges(self):
        for bound in (1, 4):
            for tables in (None, 1, 12):
                fair = fair_of((bound,), (4,), tables)
                most = min(bound, tables or 4)
                for many in (1, 3, 4, MOST - 1, MOST):
                    load = -(-many // most)
                    for less in {0, 1, many // 2, many - 1, many}:
                        for rounds in (load, load + 1, GREAT):
                            told = self.assert_urgent(fair, ((many,),), rounds, ((less,),))
                            self.assertEqual(-(-less // most), told)

    def test_many_more_rounds(self):
        # With as many rounds as are wanted behind them only the urgent meetings themselves take first rounds.
        for fair, meetings, source in great_cases(60, 33):
            urgent = any_within(source, meetings)
            self.assertEqual(load_of(fair, urgent), self.assert_urgent(fair, meetings, GREAT, urgent))


class UrgentErrorsTest(WrongCase):
    def test_wrong_arguments(self):
        for call in (first_rounds, front):
            self.assert_all(call, RIGHT)

    def test_urgent_meetings_that_are_more_than_the_meetings(self):
        beyond = (
            (((4, 2), (1, 4)), 0), (((3, 3), (1, 4)), 0), (((3, 2), (2, 4)), 1), (((3, 2), (1, 5)), 1),
            (((0, 3), (2, 0)), 0), (((0, 0), (0, 5)), 1), (((MOST, 0), (0, 0)), 0), (((0, 0), (MOST, MOST)), 1),
        )
        for call in (first_rounds, front):
            for urgent, index in beyond:
                self.assert_error(InvalidUrgent, index, call, SCHOOL, MEETINGS, 5, urgent)
                self.assert_error(InvalidUrgent, index, call, SCHOOL, MEETINGS, 4, urgent)
            self.assert_error(InvalidUrgent, 0, call, SCHOOL, ((0, 0), (0, 0)), 0, ((0, 1), (1, 0)))

    def test_whether_it_is_a_table_is_asked_ahead_of_its_numbers(self):
        for call in (first_rounds, front):
            for cell in NO_NUMBERS + (-1, MOST + 1, True):
                self.assert_error(InvalidUrgent, 1, call, SCHOOL, MEETINGS, 5, ((4, 2), (1, cell)))
                self.assert_error(InvalidUrgent, 0, call, SCHOOL, MEETINGS, 5, ((3, cell), (2, 4)))
            self.assert_error(InvalidUrgent, None, call, SCHOOL, MEETINGS, 5, ((4, 2),))
            self.assert_error(InvalidUrgent, 1, call, SCHOOL, MEETINGS, 5, ((4, 2), [1, 4]))

    def test_the_order_of_errors(self):
        for call in (first_rounds, front):
            self.assert_order(call, RIGHT)
            self.assert_too_few(call, RIGHT)

    def test_fewer_rounds_than_the_load(self):
        for fair, meetings, source in great_cases(30, 34):
            load = load_of(fair, meetings)
            for rounds in {0, load // 2, load - 1} if sum_of(meetings) else ():
                for urgent in (nothing(fair), any_within(source, meetings)):
                    self.assert_error(TooFewRounds, load, first_rounds, fair, meetings, rounds, urgent)
                    self.assert_error(TooFewRounds, load, front, fair, meetings, rounds, urgent)

    def test_arguments_by_position_and_by_name(self):
        again = {"fair": Fair.read(str(SCHOOL)), "meetings": ((3, 2), (1, 4)), "urgent": ((3, 0), (1, 0))}
        for call in (first_rounds, front):
            told = call(*RIGHT.values())
            self.assertEqual(told, call(**dict(reversed(RIGHT.items()))))
            self.assertEqual(told, call(**{**RIGHT, **again}))
            self.assertEqual("meetrounds.urgent", getattr(urgent_file, call.__name__).__module__)


if __name__ == "__main__":
    unittest.main()
