"""The most meetings in first rounds, for all their numbers at once: the interface of meetrounds.curve."""

import itertools
import unittest

from meetrounds import curve as curve_file
from meetrounds.curve import curve, most_front
from meetrounds.errors import InvalidNumber, TooFewRounds
from meetrounds.fairs import Fair
from odd import GREAT
from plain import (
    MOST, SCHOOL, WIDE, Search, any_case, any_first, any_rounds, bounds_by_time, curve_of, fair_of, great_cases,
    load_of, nothing, range_by_lots, small_cases, sum_of,
)
from wrong import MEETINGS, WRONG_NUMBERS, WrongCase

RIGHT = {"fair": SCHOOL, "meetings": MEETINGS, "rounds": 6}
RIGHT_FIRST = {**RIGHT, "first": 2}


def most_by_lots(fair, meetings, rounds, first):
    """The most meetings in first rounds, as the lots of places tell it."""
    bounds = bounds_by_time(fair, meetings, rounds, first)
    return range_by_lots(len(fair.hosts), len(fair.guests), bounds, "sum")[1]


def value_of(triples, first):
    """What a curve tells of so many first rounds."""
    _, base, slope = [one for one in triples if one[0] <= first][-1]
    return base + slope * first


class CurveTest(WrongCase):
    def assert_curve(self, fair, meetings, rounds, triples):
        """The triples are of the right kind, and they begin and go on as they are to."""
        self.assertIs(tuple, type(triples))
        for triple in triples:
            self.assertEqual((tuple, [int] * 3), (type(triple), list(map(type, triple))))
        begins = [begin for begin, _, _ in triples]
        self.assertEqual(0, begins[0])
        self.assertEqual(sorted(set(begins)), begins)
        self.assertLessEqual(begins[-1], rounds)
        for (begin, base, slope), end in zip(triples, begins[1:] + [rounds + 1]):
            # The most in D first rounds rises ever less with D: between two numbers of D for which it keeps to a
            # line, it keeps to it.
            for first in (begin, begin + 1, (begin + end) // 2, end - 1):
                if first < end:
                    self.assertEqual(most_by_lots(fair, meetings, rounds, first), base + slope * first)
            if end <= rounds:
                self.assertLess(most_by_lots(fair, meetings, rounds, end), base + slope * end)
            if begin < rounds:
                rise = most_by_lots(fair, meetings, rounds, begin + 1) - most_by_lots(fair, meetings, rounds, begin)
                self.assertEqual(rise, slope)
            else:
                self.assertEqual(0, slope)

    def test_the_examples_of_the_document(self):
        self.assertEqual(((0, 0, 2),), curve(WIDE, ((3, 2), (1, 4)), 5))
        self.assertEqual(((0, 0, 2), (6, 10, 0)), curve(WIDE, ((3, 2), (1, 4)), 8))
        self.assertEqual(10, most_front(WIDE, ((3, 2), (1, 4)), 8, 6))
        self.assertEqual(((0, 0, 0),), curve(WIDE, ((0, 0), (0, 0)), 0))

    def test_small_curves_against_a_search_through_all_rounds(self):
        for fair, meetings in small_cases():
            search = Search(fair, meetings)
            load = load_of(fair, meetings)
            for rounds in (load, load + 1, load + 4):
                values = [max(map(sum_of, search.fronts(rounds, first))) for first in range(rounds + 1)]
                with self.subTest(fair=str(fair), meetings=meetings, rounds=rounds):
                    self.assertEqual(curve_of(values), curve(fair, meetings, rounds))
                    told = [most_front(fair, meetings, rounds, first) for first in range(rounds + 1)]
                    self.assertEqual(values, told)

    def test_curves_of_some_rounds_against_all_their_values(self):
        seen = set()
        for _, _, source in great_cases(60, 17):
            fair, _ = any_case(source)
            meetings = tuple(tuple(source.choice((0, 1, 3, 9, 20)) for _ in fair.guests) for _ in fair.hosts)
            for rounds in (load_of(fair, meetings), load_of(fair, meetings) + 5):
                values = [most_front(fair, meetings, rounds, first) for first in range(rounds + 1)]
                triples = curve(fair, meetings, rounds)
                self.assertEqual(curve_of(values), triples)
                seen.add(len(triples))
        self.assertTrue({1, 2, 3, 4} <= seen, seen)

    def test_great_curves(self):
        for fair, meetings, source in great_cases(40, 18):
            rounds = any_rounds(source, load_of(fair, meetings))
            with self.subTest(fair=str(fair), meetings=meetings, rounds=rounds):
                self.assert_curve(fair, meetings, rounds, curve(fair, meetings, rounds))

    def test_a_great_curve_with_many_triples(self):
        small = ((2759, 0, 94, 2), (9, 0, 0, 0), (3478, 19955, 45, 0), (814, 8, 0, 0))
        fair = fair_of((1, 1, 3, 3), (3, 2, 2, 2), 12)
        for scale, more in ((1, 0), (10 ** 25, 0), (10 ** 25, 1)):
            meetings = tuple(tuple(many * scale + more for many in row) for row in small)
            load = load_of(fair, meetings)
            for rounds in (load, load + 1, GREAT):
                triples = curve(fair, meetings, rounds)
                self.assertGreaterEqual(len(triples), 6)
                self.assert_curve(fair, meetings, rounds, triples)

    def test_the_most_in_great_first_rounds(self):
        for fair, meetings, source in great_cases(100, 19):
            rounds = any_rounds(source, load_of(fair, meetings))
            triples = curve(fair, meetings, rounds)
            for first in (any_first(source, rounds), any_first(source, rounds)):
                with self.subTest(fair=str(fair), meetings=meetings, rounds=rounds, first=first):
                    told = most_front(fair, meetings, rounds, first)
                    self.assertIs(int, type(told))
                    self.assertEqual(most_by_lots(fair, meetings, rounds, first), told)
                    self.assertEqual(told, value_of(triples, first))

    def test_a_line_that_ends_between_two_numbers_of_rounds(self):
        # One host with the bound 2 has 5 meetings: 0, 2, 4, 5, 5.
        fair = fair_of((2,), (2,))
        self.assertEqual(((0, 0, 2), (3, 5, 0)), curve(fair, ((5,),), 5))
        self.assertEqual(((0, 0, 2), (3, 5, 0)), curve(fair, ((5,),), 3))
        # Two hosts, one of which is done in 2 and a half rounds: 0, 3, 6, 8, 9, 10.
        fair = fair_of((2, 1), (4, 4))
        self.assertEqual(((0, 0, 3), (3, 5, 1)), curve(fair, ((5, 0), (0, 5)), 5))
        self.assertEqual([0, 3, 6, 8, 9, 10], [most_front(fair, ((5, 0), (0, 5)), 5, first) for first in range(6)])

    def test_a_last_triple_that_begins_with_the_last_round(self):
        # 0, 4, 5: the line of the first rise is left at the last number of first rounds.
        self.assertEqual(((0, 0, 4), (2, 5, 0)), curve(fair_of((4,), (4,)), ((5,),), 2))
        self.assertEqual(((0, 0, 4), (2, 5, 0)), curve(fair_of((4,), (4,)), ((5,),), 9))

    def test_nothing_to_meet(self):
        for fair in (SCHOOL, WIDE, fair_of((4,), (4,), 1), fair_of((1,) * 4, (1,) * 4, 12)):
            for rounds in (0, 1, 2, GREAT):
                self.assertEqual(((0, 0, 0),), curve(fair, nothing(fair), rounds))
                for first in {0, rounds // 2, rounds}:
                    self.assertEqual(0, most_front(fair, nothing(fair), rounds, first))

    def test_one_host_and_one_guest_at_the_edges(self):
        for bound, tables in itertools.product((1, 4), (None, 1, 12)):
            fair = fair_of((bound,), (4,), tables)
            slope = min(bound, tables or 4)
            for many in (MOST, MOST - 1, MOST - 3, 8, 1):
                full = many // slope
                load = -(-many // slope)
                told = ((0, 0, min(many, slope)), (max(full, 1) + 1, many, 0))
                self.assertEqual(told, curve(fair, ((many,),), load + 3))
                for first in {0, 1, full // 2, full, load, load + 3}:
                    told = most_front(fair, ((many,),), load + 3, min(first, load + 3))
                    self.assertEqual(min(many, slope * first), told)

    def test_no_first_rounds_and_all_of_them(self):
        for fair, meetings, source in great_cases(60, 20):
            rounds = any_rounds(source, load_of(fair, meetings))
            self.assertEqual(0, most_front(fair, meetings, rounds, 0))
            self.assertEqual(sum_of(meetings), most_front(fair, meetings, rounds, rounds))


class CurveErrorsTest(WrongCase):
    def test_wrong_arguments(self):
        self.assert_all(curve, RIGHT)
        self.assert_all(most_front, RIGHT_FIRST)
        self.assert_given(InvalidNumber, "first", WRONG_NUMBERS + (7, 8, GREAT), most_front, RIGHT_FIRST)

    def test_the_order_of_errors(self):
        for call, right in ((curve, RIGHT), (most_front, RIGHT_FIRST)):
            self.assert_order(call, right)
            self.assert_too_few(call, right)

    def test_fewer_rounds_than_the_load(self):
        for fair, meetings, _ in great_cases(30, 21):
            load = load_of(fair, meetings)
            for rounds in {0, load // 2, load - 1} if load else ():
                self.assert_error(TooFewRounds, load, curve, fair, meetings, rounds)
                self.assert_error(TooFewRounds, load, most_front, fair, meetings, rounds, rounds)

    def test_arguments_by_position_and_by_name(self):
        again = {"fair": Fair.read(str(SCHOOL)), "meetings": ((3, 2), (1, 4)), "rounds": 6}
        for call, right in ((curve, RIGHT), (most_front, RIGHT_FIRST)):
            told = call(*right.values())
            self.assertEqual(told, call(**dict(reversed(right.items()))))
            self.assertEqual(told, call(**{**right, **again}))
            self.assertEqual("meetrounds.curve", getattr(curve_file, call.__name__).__module__)


if __name__ == "__main__":
    unittest.main()
