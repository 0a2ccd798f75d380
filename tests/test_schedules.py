"""Schedules, even ones and given ones: promises [8] and [9] and the interface of meetrounds.schedules."""

import itertools
import unittest

from meetrounds import schedules
from meetrounds.errors import InvalidIndex, InvalidSchedule, NotAFair, TooFewRounds
from meetrounds.fairs import Fair
from meetrounds.schedules import fits, is_even, round_at, schedule
from odd import GREAT, ODD, EqualToAll, Touchy
from plain import (
    MOST, SCHOOL, WIDE, all_lines, any_rounds, fair_of, great_cases, is_round, load_of, nothing, plus, small_cases,
    tables_within,
)
from wrong import MEETINGS, NO_NUMBERS, WRONG_FAIRS, WrongCase

FAR = ((((1, 0), (0, 1)), 10 ** 30), (((0, 1), (1, 0)), 2))
RIGHT = {"fair": SCHOOL, "meetings": MEETINGS, "rounds": 5}

# Values that are no schedules, neither of the fair of the document nor of any other one.
NO_SCHEDULES = tuple(value for value in ODD if not isinstance(value, tuple) or value) + (
    [(((1, 0), (0, 1)), 1)], ([((1, 0), (0, 1)), 1],), (([(1, 0), (0, 1)], 1),), ((([1, 0], (0, 1)), 1),),
    ((((1, 0), [0, 1]), 1),), ((((1, 0), (0, 1)),),), ((((1, 0), (0, 1)), 1, 1),), (((1, 0), (0, 1)), 1),
    ((1, ((1, 0), (0, 1))),), ((((1, 0), (0, 1)), 0),), ((((1, 0), (0, 1)), -1),), ((((1, 0), (0, 1)), True),),
    ((((1, 0), (0, 1)), None),), ((((1, 0), (0, 1)), (1,)),), ((((1, 0), (0, 1)), "1"),), ((((1, 0), (0, True)), 1),),
    ((((1, 0), (0, False)), 1),), ((((1, 0), (0, -1)), 1),), ((((1, 0), (0, None)), 1),), ((((1, 0), (0, "1")), 1),),
    ((((1, 0), (0,)), 1),), ((((1,), (0, 1)), 1),), ((((1, 0), (0, 1, 0)), 1),), ((((), ()), 1),), (((), 1),),
    (((1, 0), 1),), ((1, 1),), ((None, 1),), ((((1, 0), ((0, 1),)), 1),), ((((1, 0), (0, 1)), 1), None),
    ((((1, 0), (0, 1)), 1), ()), ((((1, 0), (0, 1)), 1), (((1, 0), (0, 1)), 0)), (EqualToAll(),), (Touchy(),),
    ((EqualToAll(), 1),), ((Touchy(), 1),), ((((1, 0), (0, 1)), EqualToAll()),), ((((1, 0), (0, Touchy())), 1),),
    ((((1, 0), EqualToAll()), 1),), ((("10", "01"), 1),), (({0: 1, 1: 0}, 1),), {0: 1}, "ab", (b"ab", b"cd"),
    ((((1, 0), (0, 1)), 1), (((1, 0),), 1)), ((((1, 0), (0, 1)), 1), (((1,), (0,)), 1)),
    ((((1, 0), (0, 1)), 1), (((1, 0, 0), (0, 1, 0)), 1)), ((((1, 0), (0, 1)), 1), (((1, 0), (0, 1), (0, 0)), 1)),
    ((((1,) * 5,), 1),), (((((1,),) * 5), 1),), ((((1,) * 5,) * 5, 1),), ((((0, 0),) * 5, 1),),
)


def length_of(blocks):
    """The number of rounds of a schedule."""
    return sum(times for _, times in blocks)


def meetings_of(fair, blocks):
    """The meetings of a schedule of the fair."""
    total = nothing(fair)
    for table, times in blocks:
        total = plus(total, tuple(tuple(number * times for number in row) for row in table))
    return total


def are_even(fair, blocks):
    """Whether a schedule of the fair is even, by the words of promise [8]."""
    length = length_of(blocks)
    lines = all_lines(meetings_of(fair, blocks))
    return all(
        number in (lines[name] // length, -(-lines[name] // length))
        for table, _ in blocks for name, number in all_lines(table).items()
    )


class ScheduleTest(WrongCase):
    def assert_schedule(self, fair, meetings, rounds, told):
        """An even schedule of these meetings, of just this length, with 30 blocks at most."""
        self.assertIs(tuple, type(told))
        self.assertLessEqual(len(told), 30)
        for block in told:
            self.assertIs(tuple, type(block))
            table, times = block
            self.assertIs(int, type(times))
            self.assertLessEqual(1, times)
            self.assertIs(tuple, type(table))
            self.assertEqual([(tuple, len(fair.guests))] * len(fair.hosts), [(type(row), len(row)) for row in table])
            self.assertTrue(all(type(number) is int and number >= 0 for row in table for number in row))
            self.assertTrue(is_round(fair, table))
        self.assertEqual(rounds, length_of(told))
        self.assertEqual(meetings, meetings_of(fair, told))
        self.assertTrue(are_even(fair, told))
        self.assertIs(True, fits(fair, meetings, told))
        self.assertIs(True, is_even(told))

    def test_the_examples_of_the_document(self):
        plan = schedule(WIDE, ((3, 2), (1, 4)))
        self.assert_schedule(WIDE, ((3, 2), (1, 4)), 5, plan)
        self.assertEqual([True, True], [fits(WIDE, ((3, 2), (1, 4)), plan), is_even(plan)])
        self.assertIs(False, is_even(((((2,),), 1), (((0,),), 1))))
        self.assertEqual((), schedule(WIDE, ((0, 0), (0, 0))))
        self.assertEqual(((1, 0), (0, 1)), round_at(WIDE, FAR, 10 ** 30 - 1))
        self.assertEqual(((0, 1), (1, 0)), round_at(WIDE, FAR, 10 ** 30))
        self.assertIs(True, fits(WIDE, ((10 ** 30, 2), (2, 10 ** 30)), FAR))
        self.assertIs(True, is_even(FAR))
        self.assert_error(TooFewRounds, 5, schedule, WIDE, ((3, 2), (1, 4)), 4)

    def test_small_meetings_in_the_load_and_more_rounds(self):
        for fair, meetings in small_cases():
            load = load_of(fair, meetings)
            with self.subTest(fair=str(fair), meetings=meetings):
                self.assert_schedule(fair, meetings, load, schedule(fair, meetings))
                for rounds in (load, load + 1, load + 2, 2 * load + 3, 97):
                    self.assert_schedule(fair, meetings, rounds, schedule(fair, meetings, rounds))

    def test_great_meetings_in_the_load_and_more_rounds(self):
        for fair, meetings, source in great_cases(250, 8):
            load = load_of(fair, meetings)
            rounds = any_rounds(source, load)
            with self.subTest(fair=str(fair), meetings=meetings, rounds=rounds):
                self.assert_schedule(fair, meetings, load, schedule(fair, meetings))
                self.assert_schedule(fair, meetings, rounds, schedule(fair, meetings, rounds))

    def test_great_meetings_of_four_hosts_and_four_guests(self):
        primes = (2, 3, 5, 7, 11, 13, 17, 19, 23, 29, 31, 37, 41, 43, 47, 53)
        for scale in (1, 10 ** 27 + 1):
            meetings = tuple(tuple(prime * scale for prime in primes[at:at + 4]) for at in range(0, 16, 4))
            for tables in (None, 1, 5, 12):
                fair = fair_of((4, 3, 4, 4), (4, 4, 2, 4), tables)
                load = load_of(fair, meetings)
                for rounds in (load, load + 1, 2 * load - 1, 401 * scale, 16 * MOST, 80 * MOST + 7, GREAT):
                    self.assert_schedule(fair, meetings, rounds, schedule(fair, meetings, rounds))

    def test_no_meetings(self):
        for fair in (SCHOOL, WIDE, fair_of((1,), (4,), 1), fair_of((1,) * 4, (4,) * 4, 12)):
            self.assertEqual((), schedule(fair, nothing(fair)))
            self.assertEqual((), schedule(fair, nothing(fair), 0))
            for rounds in (1, 2, 30, 31, GREAT):
                self.assert_schedule(fair, nothing(fair), rounds, schedule(fair, nothing(fair), rounds))

    def test_one_host_and_one_guest_at_the_edges(self):
        for bound, tables in itertools.product((1, 4), (None, 1, 12)):
            fair = fair_of((bound,), (4,), tables)
            for many in (1, 2, 3, 4, 5, MOST - 1, MOST):
                load = -(-many // min(bound, tables or 4))
                for rounds in (load, load + 1, many, 2 * many + 1, GREAT):
                    self.assert_schedule(fair, ((many,),), rounds, schedule(fair, ((many,),), rounds))
                self.assert_error(TooFewRounds, load, schedule, fair, ((many,),), load - 1)

    def test_fewer_rounds_than_the_load(self):
        for fair, meetings, source in great_cases(60, 9):
            load = load_of(fair, meetings)
            for rounds in {0, load // 2, load - 1, source.randrange(load) if load else 0} if load else ():
                self.assert_error(TooFewRounds, load, schedule, fair, meetings, rounds)
        self.assert_too_few(schedule, RIGHT)

    def test_arguments_by_position_and_by_name(self):
        told = schedule(SCHOOL, MEETINGS, 7)
        self.assert_schedule(SCHOOL, MEETINGS, 7, told)
        self.assertEqual(told, schedule(rounds=7, meetings=((3, 2), (1, 4)), fair=Fair.read(str(SCHOOL))))
        self.assertEqual(schedule(SCHOOL, MEETINGS), schedule(SCHOOL, meetings=MEETINGS, rounds=None))
        self.assertEqual(schedule(SCHOOL, MEETINGS), schedule(SCHOOL, MEETINGS))
        self.assertEqual("host ann 1\nhost bob 1\nguest x 1\nguest y 2\ntables 2", str(SCHOOL))

    def test_wrong_arguments(self):
        self.assert_all(schedule, RIGHT)
        self.assert_order(schedule, RIGHT)

    def test_the_interface_is_defined_in_its_file(self):
        for name in ("schedule", "fits", "is_even", "round_at"):
            self.assertEqual("meetrounds.schedules", getattr(schedules, name).__module__)


class FitsTest(WrongCase):
    def test_schedules_of_any_few_blocks(self):
        for fair, most in ((fair_of((2,), (1, 2), 2), ((2, 3),)), (fair_of((1, 1), (1, 1)), ((1, 1), (1, 2)))):
            tables = tables_within(most)
            for chosen in itertools.product(itertools.product(tables, (1, 2)), repeat=2):
                for value in (chosen, chosen[:1]):
                    rounds_only = all(is_round(fair, table) for table, _ in value)
                    for meetings in (meetings_of(fair, value), most):
                        right = rounds_only and meetings_of(fair, value) == meetings
                        self.assertIs(right, fits(fair, meetings, value))

    def test_each_limit_of_a_round(self):
        fair = fair_of((2, 3), (3, 2), 4)
        for table in tables_within(((3, 3), (4, 3))):
            self.assertIs(is_round(fair, table), fits(fair, table, ((table, 1),)))

    def test_schedules_without_rounds(self):
        for fair in (SCHOOL, WIDE, fair_of((1,), (1,), 1)):
            self.assertIs(True, fits(fair, nothing(fair), ()))
            self.assertIs(True, fits(fair, nothing(fair), ((nothing(fair), GREAT),)))
        for meetings in (((1, 0), (0, 0)), ((0, 0), (0, 1)), MEETINGS):
            self.assertIs(False, fits(SCHOOL, meetings, ()))
            self.assertIs(False, fits(SCHOOL, meetings, ((((0, 0), (0, 0)), 3),)))

    def test_schedules_that_differ_from_one_that_fits(self):
        for fair, meetings, _ in great_cases(60, 10):
            plan = schedule(fair, meetings)
            for at, (table, times) in enumerate(plan):
                with self.subTest(fair=str(fair), meetings=meetings, at=at):
                    self.assertIs(True, fits(fair, meetings, plan[at:] + plan[:at]))
                    more = plan[:at] + ((table, times + 1),) + plan[at + 1:]
                    self.assertIs(table == nothing(fair), fits(fair, meetings, more))
                    less = plan[:at] + plan[at + 1:]
                    self.assertIs(table == nothing(fair), fits(fair, meetings, less))
                    twice = plan[:at] + ((table, times), (nothing(fair), 3)) + plan[at + 1:]
                    self.assertIs(True, fits(fair, meetings, twice))
            self.assertIs(False, fits(fair, meetings, list(plan)))
            self.assertIs(False, fits(fair, meetings, tuple(list(block) for block in plan) + ([nothing(fair), 1],)))

    def test_uneven_schedules_fit_too(self):
        fair = fair_of((2,), (2,))
        self.assertIs(True, fits(fair, ((4,),), ((((2,),), 1), (((0,),), 3), (((1,),), 2))))
        self.assertIs(True, fits(fair, ((MOST,),), ((((2,),), MOST // 2), (((0,),), GREAT))))

    def test_rounds_of_other_fairs(self):
        self.assertIs(False, fits(WIDE, ((3, 2), (1, 4)), ((((1, 1), (0, 1)), 1), (((2, 1), (1, 3)), 1))))
        self.assertIs(False, fits(SCHOOL, ((1, 0), (0, 1)), ((((1, 0, 0), (0, 1, 0)), 1),)))
        self.assertIs(False, fits(SCHOOL, ((1, 0), (0, 1)), ((((1, 0), (0, 1), (0, 0)), 1),)))
        self.assertIs(False, fits(SCHOOL, ((1, 0), (0, 1)), ((((1, 0),), 1), (((0, 1),), 1))))

    def test_any_value(self):
        for value in NO_SCHEDULES:
            with self.subTest(kind=type(value)):
                for meetings in (((1, 0), (0, 1)), ((0, 0), (0, 0)), MEETINGS):
                    self.assertIs(False, fits(SCHOOL, meetings, value))

    def test_errors(self):
        right = {"fair": SCHOOL, "meetings": MEETINGS, "value": ()}
        self.assert_all(fits, right)
        for value in ((), None, Touchy()):
            self.assert_order(fits, {**right, "value": value})
        self.assertIs(True, fits(value=schedule(SCHOOL, MEETINGS), meetings=MEETINGS, fair=SCHOOL))


class IsEvenTest(WrongCase):
    def test_small_schedules(self):
        for hosts, guests, most in ((1, 1, 4), (1, 2, 2), (2, 1, 2), (2, 2, 1)):
            fair = fair_of((4,) * hosts, (4,) * guests)
            tables = tables_within(((most,) * guests,) * hosts)
            blocks = list(itertools.product(tables, (1, 3)))
            for value in [(one,) for one in blocks] + list(itertools.product(blocks, repeat=2)):
                self.assertIs(are_even(fair, value), is_even(value))

    def test_each_line_alone_can_be_uneven(self):
        one, other = ((1, 0), (0, 0)), ((0, 0), (0, 1))
        self.assertIs(True, is_even(((one, 1), (other, 1))))
        # One number, the first row sum, the first column sum and the sum, each alone, are not even.
        self.assertIs(False, is_even(((((2, 0), (0, 0)), 1), (((0, 1), (1, 0)), 1))))
        self.assertIs(False, is_even(((((1, 1), (0, 0)), 1), (((0, 0), (1, 1)), 1))))
        self.assertIs(False, is_even(((((1, 0), (1, 0)), 1), (((0, 1), (0, 1)), 1))))
        self.assertIs(False, is_even(((((1, 0), (0, 1)), 1), (((0, 0), (0, 0)), 1))))
        self.assertIs(True, is_even(((((1, 0), (0, 1)), 1), (((0, 1), (1, 0)), 1))))

    def test_schedules_of_each_size(self):
        for hosts, guests in itertools.product(range(1, 5), repeat=2):
            for number in (0, 1, 7, GREAT):
                table = ((number,) * guests,) * hosts
                more = ((number + 1,) + (number,) * (guests - 1),) + table[1:]
                much = ((number + 2,) + (number,) * (guests - 1),) + table[1:]
                self.assertIs(True, is_even(((table, 1),)))
                self.assertIs(True, is_even(((table, GREAT), (table, 1))))
                self.assertIs(True, is_even(((table, GREAT), (more, 2), (table, 7))))
                self.assertIs(False, is_even(((table, GREAT), (much, 1))))
                self.assertIs(False, is_even(((much, 1), (more, 1), (table, 1))))

    def test_a_schedule_without_rounds(self):
        self.assertIs(True, is_even(()))

    def test_values_that_are_none(self):
        for value in NO_SCHEDULES:
            with self.subTest(kind=type(value)):
                self.assert_error(InvalidSchedule, value, is_even, value)
                self.assert_error(InvalidSchedule, value, is_even, value=value)

    def test_by_name(self):
        self.assertIs(True, is_even(value=FAR))


class RoundAtTest(WrongCase):
    def test_each_round_of_small_schedules(self):
        tables = (((1, 0), (0, 1)), ((0, 1), (1, 0)), ((0, 0), (0, 0)))
        for times in itertools.product((1, 2, 3), repeat=3):
            value = tuple(zip(tables, times))
            each = [table for table, many in value for _ in range(many)]
            self.assertEqual(each, [round_at(SCHOOL, value, index) for index in range(len(each))])
            for index in (-1, len(each), len(each) + 1, GREAT, -len(each)):
                self.assert_error(InvalidIndex, index, round_at, SCHOOL, value, index)

    def test_each_round_of_made_schedules(self):
        for fair, meetings, source in great_cases(60, 11):
            plan = schedule(fair, meetings, any_rounds(source, load_of(fair, meetings)))
            passed = 0
            for table, times in plan:
                for index in (passed, passed + times - 1, passed + source.randrange(times)):
                    self.assertEqual(table, round_at(fair, plan, index))
                passed += times
            self.assert_error(InvalidIndex, passed, round_at, fair, plan, passed)

    def test_a_schedule_without_rounds(self):
        for index in (0, 1, -1, None):
            self.assert_error(InvalidIndex, index, round_at, SCHOOL, (), index)

    def test_indexes_that_are_none(self):
        for index in NO_NUMBERS + (-1, -GREAT, GREAT, 10 ** 30 + 2, True, False, "0", (0,), [0]):
            with self.subTest(kind=type(index)):
                self.assert_error(InvalidIndex, index, round_at, WIDE, FAR, index)
        self.assertEqual(((0, 1), (1, 0)), round_at(WIDE, FAR, 10 ** 30 + 1))

    def test_values_that_are_no_schedules_of_the_fair(self):
        others = (
            ((((1, 1), (0, 1)), 1),), ((((1, 0), (1, 0)), 1),), ((((0, 2), (0, 0)), 1),), ((((0, 1), (0, 2)), 1),),
            ((((1,),), 1),), ((((1, 0, 0), (0, 1, 0)), 1),), FAR + ((((1, 1), (1, 1)), 1),),
            ((((GREAT, 0), (0, 0)), 1),),
        )
        for value in NO_SCHEDULES + others:
            with self.subTest(kind=type(value)):
                for index in (0, None, -1):
                    self.assert_error(InvalidSchedule, value, round_at, SCHOOL, value, index)

    def test_the_tables_of_the_fair_limit_its_rounds(self):
        value = ((((1, 0), (0, 1)), 1),)
        for tables in (None, 2, 12):
            self.assertEqual(value[0][0], round_at(Fair(SCHOOL.hosts, SCHOOL.guests, tables), value, 0))
        self.assert_error(InvalidSchedule, value, round_at, Fair(SCHOOL.hosts, SCHOOL.guests, 1), value, 0)

    def test_fairs_that_are_none_and_the_order_of_errors(self):
        self.assert_given(NotAFair, "fair", WRONG_FAIRS, round_at, {"fair": WIDE, "value": FAR, "index": 0})
        self.assert_given(NotAFair, "fair", WRONG_FAIRS, round_at, {"fair": WIDE, "value": None, "index": None})
        self.assertEqual(((1, 0), (0, 1)), round_at(index=0, value=FAR, fair=WIDE))


if __name__ == "__main__":
    unittest.main()
