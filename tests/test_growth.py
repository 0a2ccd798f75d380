"""Meetings that grow, promise [13] and the interface of meetrounds.growth."""

import itertools
import math
import random
import unittest

from meetrounds import growth as growth_file
from meetrounds.errors import InvalidGrowth, InvalidMeetings
from meetrounds.fairs import Fair
from meetrounds.growth import grown
from odd import GREAT
from plain import SCHOOL, WIDE, combined, fair_of, load_of, nothing
from wrong import NO_NUMBERS, WrongCase

RIGHT = {"fair": SCHOOL, "start": ((2, 0), (0, 0)), "growth": ((0, 0), (0, 1))}

# Beyond these steps and with these periods everything is settled: no line can be ahead of a faster one for longer.
STEPS = 1600
PERIODS = 140


def load_at(fair, start, growth, step):
    """The load at a step by the words of promise [13]."""
    return load_of(fair, combined(start, growth, lambda many, more: many + step * more))


def told_at(triple, step):
    """The load that a triple tells for a step."""
    early, period, rise = triple
    if step < len(early):
        return early[step]
    times = -(-(step - len(early) + 1) // period)
    return early[step - times * period] + times * rise


def triple_of(loads):
    """The triple that tells these loads, found by trying all periods and all begins."""
    for period in range(1, PERIODS):
        rises = [after - before for before, after in zip(loads, loads[period:])]
        if len(set(rises[-2 * PERIODS:])) == 1:
            begin = len(rises)
            while begin and rises[begin - 1] == rises[-1]:
                begin -= 1
            return tuple(loads[:begin + period]), period, rises[-1]
    raise AssertionError("no period")


def any_growing(source):
    """Any fair with any start and any growth."""
    hosts = [source.randrange(1, 5) for _ in range(source.randrange(1, 5))]
    guests = [source.randrange(1, 5) for _ in range(source.randrange(1, 5))]
    fair = fair_of(hosts, guests, source.choice((None, 1, 2, 3, 5, 7, 8, 9, 10, 11, 12)))
    start = tuple(tuple(source.choice((0, 0, 9, source.randrange(10))) for _ in guests) for _ in hosts)
    growth = tuple(tuple(source.choice((0, 0, 0, 1, 2, 3)) for _ in guests) for _ in hosts)
    return fair, start, growth


class GrowthTest(WrongCase):
    def assert_grown(self, fair, start, growth, steps=STEPS):
        """The triple is the one that plain trying finds, and it tells the loads far on, too."""
        told = grown(fair, start, growth)
        self.assertEqual((tuple, tuple, int, int), (type(told), *map(type, told)))
        self.assertTrue(all(type(number) is int for number in told[0]))
        loads = [load_at(fair, start, growth, step) for step in range(steps)]
        self.assertEqual(triple_of(loads), told)
        for step in (10 ** 6, 10 ** 6 + 1, 10 ** 30 + 7, 10 ** 79, 10 ** 79 + 5):
            self.assertEqual(load_at(fair, start, growth, step), told_at(told, step))
        return told

    def test_the_examples_of_the_document(self):
        self.assertEqual(((0,), 1, 1), grown(SCHOOL, ((0, 0), (0, 0)), ((1, 0), (0, 1))))
        self.assertEqual(((2, 2), 2, 1), grown(Fair((("a", 2),), (("b", 3),)), ((3,),), ((1,),)))
        self.assertEqual(((2, 2, 2), 1, 1), grown(SCHOOL, ((2, 0), (0, 0)), ((0, 0), (0, 1))))

    def test_all_of_one_host_and_one_guest(self):
        for bound, other, tables in itertools.product((1, 2, 3, 4), (1, 3, 4), (None, 1, 2, 5, 12)):
            for start, growth in itertools.product((0, 1, 5, 9), range(4)):
                self.assert_grown(fair_of((bound,), (other,), tables), ((start,),), ((growth,),), 500)

    def test_any_fairs(self):
        source = random.Random(51)
        periods, begins = set(), set()
        for _ in range(120):
            fair, start, growth = any_growing(source)
            with self.subTest(fair=str(fair), start=start, growth=growth):
                early, period, _ = self.assert_grown(fair, start, growth)
                periods.add(period)
                begins.add(len(early) - period)
        self.assertTrue({1, 2, 3, 4} <= periods, periods)
        self.assertGreater(len(begins), 8)

    def test_all_periods(self):
        # The tables grow fastest, by 1 of so many a step.
        for tables in range(1, 13):
            fair = fair_of((4, 4), (4, 4), tables)
            for start in (((0, 0), (0, 0)), ((1, 2), (3, 4)), ((9, 8), (7, 6))):
                for growth in (((1, 0), (0, 0)), ((3, 3), (3, 2)), ((1, 1), (1, 1))):
                    period = self.assert_grown(fair, start, growth)[1]
                    if tables < 4 and growth[0][1] == 0:
                        self.assertEqual(tables, period)
        for bound in (1, 2, 3, 4):
            for growth in range(4):
                told = self.assert_grown(fair_of((bound,), (4,)), ((7,),), ((growth,),))
                self.assertEqual(bound // math.gcd(bound, growth), told[1])
        fair = fair_of((4, 3, 4), (4, 4, 3, 3), 8)
        start = ((0, 9, 5, 9), (9, 0, 5, 9), (9, 0, 1, 0))
        self.assertEqual(8, self.assert_grown(fair, start, ((1, 3, 3, 0), (3, 1, 0, 1), (3, 3, 2, 1)))[1])

    def test_lines_that_are_overtaken_late(self):
        # One line starts far ahead and grows more slowly than another one by ever so little.
        fair = fair_of((2, 4, 3), (4, 3, 3, 4), 5)
        start = ((3, 9, 0, 0), (9, 9, 9, 9), (2, 0, 0, 9))
        early, period, _ = self.assert_grown(fair, start, ((1, 1, 0, 0), (0, 3, 0, 0), (3, 3, 2, 0)))
        self.assertEqual(120, len(early) - period)
        fair = fair_of((1, 4, 4, 3), (4, 4, 3, 4), 12)
        start = ((9, 9, 9, 0), (0, 9, 1, 0), (0, 0, 0, 0), (9, 0, 0, 0))
        early, period, _ = self.assert_grown(fair, start, ((0, 0, 2, 0), (1, 0, 0, 0), (0, 3, 0, 3), (1, 2, 3, 1)))
        self.assertEqual(70, len(early) - period)

    def test_no_growth(self):
        for fair in (SCHOOL, WIDE, fair_of((4,), (1,), 1), fair_of((3,) * 4, (2,) * 4, 11)):
            for many in (0, 1, 9):
                start = ((many,) * len(fair.guests),) * len(fair.hosts)
                self.assertEqual(((load_of(fair, start),), 1, 0), grown(fair, start, nothing(fair)))

    def test_start_and_growth_at_their_limits(self):
        for hosts, guests in itertools.product((1, 2, 4), repeat=2):
            for bounds, tables in itertools.product((1, 3, 4), (None, 1, 2, 11, 12)):
                fair = fair_of((bounds,) * hosts, (4,) * guests, tables)
                nines = ((9,) * guests,) * hosts
                threes = ((3,) * guests,) * hosts
                self.assert_grown(fair, nines, threes, 600)
                self.assert_grown(fair, nothing(fair), threes, 600)

    def test_wrong_arguments(self):
        self.assert_all(grown, RIGHT)
        for cell in (10, 11, 10 ** 30, GREAT):
            self.assert_error(InvalidMeetings, 0, grown, SCHOOL, ((9, cell), (9, cell)), ((0, 0), (0, 0)))
            self.assert_error(InvalidMeetings, 1, grown, SCHOOL, ((9, 9), (cell, 9)), ((0, 0), (0, 0)))
        for cell in (4, 5, 9, 10 ** 30, GREAT):
            self.assert_error(InvalidGrowth, 0, grown, SCHOOL, ((9, 9), (9, 9)), ((cell, 0), (0, 4)))
            self.assert_error(InvalidGrowth, 1, grown, SCHOOL, ((9, 9), (9, 9)), ((3, 3), (3, cell)))
        for cell in NO_NUMBERS:
            self.assert_error(InvalidMeetings, 1, grown, SCHOOL, ((9, 9), (9, cell)), cell)

    def test_the_order_of_errors(self):
        self.assert_order(grown, RIGHT)

    def test_arguments_by_position_and_by_name(self):
        self.assertEqual(((2, 2, 2), 1, 1), grown(*RIGHT.values()))
        self.assertEqual(((2, 2, 2), 1, 1), grown(**dict(reversed(RIGHT.items()))))
        self.assertEqual("meetrounds.growth", growth_file.grown.__module__)


if __name__ == "__main__":
    unittest.main()
