"""Halls, the guarantee Halls of promise [2] and the interface of meetrounds.halls."""

import random
import unittest

from meetrounds import halls
from meetrounds.errors import InvalidNumber, InvalidRound, NothingToUndo, TooMany
from meetrounds.fairs import Fair
from meetrounds.halls import Hall
from meetrounds.schedules import schedule
from odd import GREAT, ODD, EqualToAll, Touchy
from plain import (
    MOST, SCHOOL, WIDE, Search, any_case, any_rounds, fair_of, great_cases, is_inside, is_round, load_of, minus,
    nothing, small_cases, tables_within,
)
from wrong import MEETINGS, NO_NUMBERS, WrongCase, wrong_tables

RIGHT = {"fair": SCHOOL, "meetings": MEETINGS}
PAIR = ((1, 0), (0, 1))
ONE = ((1, 0), (0, 0))
NONE = ((0, 0), (0, 0))


class Stop(BaseException):
    """An exception that only a handler of its own catches."""


def repeated(table, times):
    return tuple(tuple(many * times for many in row) for row in table)


def told_by(hall):
    """All that a hall tells."""
    return hall.fair, hall.meetings, hall.left, hall.held, hall.changes, hall.load(), hall.lost()


def any_round(source, fair, left):
    """Any round of the fair, mostly of meetings that are left."""
    table = [[0] * len(fair.guests) for _ in fair.hosts]
    for _ in range(source.randrange(8)):
        row, column = source.randrange(len(fair.hosts)), source.randrange(len(fair.guests))
        table[row][column] += 1
        fits = is_round(fair, table) and (table[row][column] <= left[row][column] or source.randrange(40) == 0)
        table[row][column] -= not fits
    return tuple(map(tuple, table))


class HallTest(WrongCase):
    def assert_told(self, hall, fair, meetings, holds):
        """The hall tells what these holds make of it."""
        left, held = meetings, 0
        for table, times in holds:
            left, held = minus(left, repeated(table, times)), held + times
        load = load_of(fair, left)
        lost = held + load - load_of(fair, meetings)
        self.assertEqual((fair, meetings, left, held, len(holds), load, lost), told_by(hall))
        self.assertGreaterEqual(lost, 0)
        self.assertEqual([int] * 4, [type(number) for number in (hall.held, hall.changes, hall.load(), hall.lost())])

    def test_the_examples_of_the_document(self):
        hall = Hall(SCHOOL, ((3, 2), (1, 4)))
        self.assertIsNone(hall.hold(((1, 0), (0, 1)), 3))
        self.assertEqual([((0, 2), (1, 1)), 3, 2, 0, 1], [hall.left, hall.held, hall.load(), hall.lost(), hall.changes])
        self.assert_error(TooMany, ONE, hall.hold, ONE)
        self.assertIsNone(hall.hold(((0, 0), (0, 1))))
        self.assertEqual([1, 2], [hall.lost(), hall.load()])

    def test_a_new_hall(self):
        for fair, meetings, _ in great_cases(40, 71):
            self.assert_told(Hall(fair, meetings), fair, meetings, [])
        hall = Hall(meetings=MEETINGS, fair=SCHOOL)
        self.assertIs(SCHOOL, hall.fair)
        self.assertIs(MEETINGS, hall.meetings)

    def test_any_holds_and_what_takes_them_back(self):
        source = random.Random(72)
        many = 0
        for _ in range(60):
            fair, meetings = any_case(source)
            hall, holds = Hall(fair, meetings), []
            for _ in range(25):
                table = any_round(source, fair, hall.left)
                times = source.choice((1, 1, 2, 7, MOST, source.randrange(1, 10 ** source.randrange(1, 31))))
                if source.randrange(3) == 0:
                    if holds:
                        self.assertIsNone(hall.undo())
                        holds.pop()
                    else:
                        self.assertRaises(NothingToUndo, hall.undo)
                elif is_inside(repeated(table, times), hall.left):
                    self.assertIsNone(hall.hold(table, times))
                    holds.append((table, times))
                    many += 1
                else:
                    self.assert_error(TooMany, table, hall.hold, table, times)
                self.assert_told(hall, fair, meetings, holds)
            while holds:
                hall.undo()
                holds.pop()
                self.assert_told(hall, fair, meetings, holds)
            self.assertRaises(NothingToUndo, hall.undo)
        self.assertGreater(many, 200)

    def test_what_is_lost_against_a_search_through_all_rounds(self):
        for fair, meetings in list(small_cases())[::5]:
            load = Search(fair, meetings).load()
            for table in tables_within(meetings):
                if is_round(fair, table):
                    hall = Hall(fair, meetings)
                    hall.hold(table)
                    more = Search(fair, minus(meetings, table)).load()
                    self.assertEqual((more, 1 + more - load), (hall.load(), hall.lost()))

    def test_schedules_of_as_few_rounds_as_possible_lose_nothing(self):
        for fair, meetings, source in great_cases(60, 73):
            hall = Hall(fair, meetings)
            for table, times in schedule(fair, meetings):
                if times <= MOST:
                    hall.hold(table, times)
                    self.assertEqual(0, hall.lost())
                else:
                    hall.hold(table, MOST)
                    hall.hold(table, min(MOST, times - MOST))
                    self.assertEqual(0, hall.lost())
            self.assertEqual(hall.load() + hall.held, load_of(fair, meetings))

    def test_longer_schedules_lose_what_they_are_longer(self):
        for fair, meetings, source in great_cases(40, 74):
            load = load_of(fair, meetings)
            rounds = min(any_rounds(source, load), load + MOST)
            hall = Hall(fair, meetings)
            lost = [0]
            for table, times in schedule(fair, meetings, rounds):
                for part in (times // 2, times - times // 2):
                    if 1 <= part <= MOST:
                        hall.hold(table, part)
                        lost.append(hall.lost())
            self.assertEqual(sorted(lost), lost)
            if hall.left == nothing(fair):
                self.assertEqual(hall.held - load, hall.lost())

    def test_rounds_without_meetings(self):
        for meetings, load in ((NONE, 0), (MEETINGS, 5)):
            hall = Hall(SCHOOL, meetings)
            for count in range(1, 4):
                hall.hold(NONE, 10 ** 30)
                self.assertEqual((meetings, count * 10 ** 30, count), (hall.left, hall.held, hall.changes))
                self.assertEqual((load, count * 10 ** 30), (hall.load(), hall.lost()))
            hall.hold(NONE)
            self.assertEqual(3 * 10 ** 30 + 1, hall.lost())

    def test_great_meetings_at_the_edges(self):
        fair = fair_of((4,), (4,), 4)
        hall = Hall(fair, ((MOST,),))
        hall.hold(((4,),), MOST // 4 - 1)
        self.assertEqual((((4,),), 1, 0), (hall.left, hall.load(), hall.lost()))
        self.assert_error(TooMany, ((3,),), hall.hold, ((3,),), 2)
        hall.hold(((3,),))
        hall.hold(((1,),))
        self.assertEqual((((0,),), 0, 1, MOST // 4 + 1), (hall.left, hall.load(), hall.lost(), hall.held))
        self.assert_error(TooMany, ((1,),), hall.hold, ((1,),))
        hall = Hall(fair_of((1,), (1,), 1), ((MOST,),))
        hall.hold(((1,),), MOST)
        self.assertEqual((((0,),), MOST, 0), (hall.left, hall.held, hall.lost()))
        most = ((MOST,) * 4,) * 4
        hall = Hall(fair_of((4,) * 4, (4,) * 4), most)
        hall.hold(((1,) * 4,) * 4, MOST)
        self.assertEqual((nothing(hall.fair), MOST, 0), (hall.left, hall.held, hall.lost()))

    def test_halls_are_equal_to_themselves_alone_and_true(self):
        one, other = Hall(SCHOOL, NONE), Hall(SCHOOL, NONE)
        for hall in (one, other):
            self.assertTrue(hall)
            self.assertIs(True, hall == hall)
            self.assertIs(False, hall != hall)
            for value in [value for value in ODD if not isinstance(value, (EqualToAll, Touchy))] + [SCHOOL, NONE]:
                self.assertIs(False, hall == value)
                self.assertIs(True, hall != value)
        self.assertIs(False, one == other)
        self.assertIs(True, one != other)

    def test_halls_of_the_same_meetings_go_their_own_ways(self):
        one, other = Hall(SCHOOL, MEETINGS), Hall(SCHOOL, MEETINGS)
        one.hold(PAIR)
        self.assertEqual((MEETINGS, 0, 0), (other.left, other.held, other.changes))
        other.hold(ONE, 2)
        one.undo()
        self.assertEqual((MEETINGS, 0, 0), (one.left, one.held, one.changes))
        self.assertEqual((((1, 2), (1, 4)), 2, 1), (other.left, other.held, other.changes))
        self.assertEqual(((3, 2), (1, 4)), MEETINGS)

    def test_the_interface_is_defined_in_its_file(self):
        self.assertEqual("meetrounds.halls", halls.Hall.__module__)
        for name in ("hold", "undo", "load", "lost", "trial", "tried"):
            self.assertTrue(callable(vars(Hall)[name]))
        for name in ("fair", "meetings", "left", "held", "changes"):
            self.assertIsInstance(vars(Hall)[name], property)


class HallErrorsTest(WrongCase):
    def setUp(self):
        self.hall = Hall(SCHOOL, MEETINGS)
        self.hall.hold(PAIR, 2)
        self.before = told_by(self.hall)

    def assert_refused(self, error, told, *args, **named):
        """Such a hold raises the error and changes nothing."""
        self.assert_error(error, told, self.hall.hold, *args, **named)
        self.assertEqual(self.before, told_by(self.hall))

    def test_halls_of_wrong_arguments(self):
        self.assert_all(Hall, RIGHT)
        self.assert_order(Hall, RIGHT)

    def test_values_that_are_no_rounds(self):
        for value, _ in wrong_tables():
            with self.subTest(kind=type(value)):
                for times in (1, None, 0):
                    self.assert_refused(InvalidRound, value, value, times)
        others = (((1, 1), (0, 0)), ((1, 0), (1, 0)), ((2, 0), (0, 0)), ((0, 0), (0, 2)), ((GREAT, 0), (0, 0)))
        for value in others + (MEETINGS,):
            self.assert_refused(InvalidRound, value, value)
            self.assert_refused(InvalidRound, value, table=value, times=GREAT)

    def test_the_tables_limit_rounds(self):
        table = ((1, 0), (0, 1))
        Hall(WIDE, MEETINGS).hold(table)
        Hall(SCHOOL, MEETINGS).hold(table)
        narrow = Hall(Fair(SCHOOL.hosts, SCHOOL.guests, 1), MEETINGS)
        self.assert_error(InvalidRound, table, narrow.hold, table)
        for fair, meetings in (((2, 3), (3, 2)), ((3, 3), (4, 3))), (((1, 4), (2, 4)), ((2, 2), (3, 5))):
            fair = fair_of(*fair, 4)
            for table in tables_within(meetings):
                hall = Hall(fair, ((MOST, MOST), (MOST, MOST)))
                if is_round(fair, table):
                    hall.hold(table)
                    self.assertEqual(1, hall.held)
                else:
                    self.assert_error(InvalidRound, table, hall.hold, table)

    def test_wrong_times(self):
        for value in NO_NUMBERS + (0, -1, -GREAT, 10 ** 30 + 1, GREAT, True, False):
            with self.subTest(kind=type(value)):
                self.assert_refused(InvalidNumber, value, NONE, value)
                self.assert_refused(InvalidNumber, value, times=value, table=PAIR)
                # That there are not so many left is asked last.
                self.assert_refused(InvalidNumber, value, ((0, 1), (1, 0)), value)

    def test_more_than_are_left(self):
        for times in (2, 3, 10 ** 30):
            table = ((1, 0), (0, 1))
            self.assert_refused(TooMany, table, table, times)
            self.assert_refused(TooMany, table, times=times, table=table)
        others = (((0, 1), (0, 0)), 3), (((0, 0), (1, 0)), 2), (((0, 1), (0, 1)), 3), (((0, 1), (1, 0)), 2)
        for table, times in others:
            self.assert_refused(TooMany, table, table, times)
            self.hall.hold(table, times - 1)
            self.hall.undo()
            self.assertEqual(self.before, told_by(self.hall))

    def test_nothing_to_undo(self):
        self.assertIsNone(self.hall.undo())
        for _ in range(3):
            with self.assertRaises(NothingToUndo):
                self.hall.undo()
            self.assertEqual((MEETINGS, 0, 0), (self.hall.left, self.hall.held, self.hall.changes))


class HallTrialTest(WrongCase):
    def setUp(self):
        self.hall = Hall(SCHOOL, MEETINGS)
        self.hall.hold(PAIR)
        self.hall.hold(ONE)
        self.before = told_by(self.hall)

    def assert_as_before(self):
        self.assertEqual(self.before, told_by(self.hall))

    def test_a_call_alone_changes_nothing(self):
        trial = self.hall.trial()
        self.assertTrue(trial)
        self.assert_as_before()
        self.hall.hold(PAIR)
        self.assertEqual(3, self.hall.changes)
        self.hall.undo()
        self.assert_as_before()

    def test_a_block_in_which_nothing_happens(self):
        with self.hall.trial() as hall:
            self.assertIs(self.hall, hall)
            self.assert_as_before()
        self.assert_as_before()

    def test_holds_in_a_block(self):
        with self.hall.trial() as hall:
            hall.hold(PAIR)
            hall.hold(NONE, MOST)
            self.assertEqual((4, 3 + MOST), (hall.changes, self.hall.held))
        self.assert_as_before()
        self.hall.undo()
        self.assertEqual((1, 1), (self.hall.changes, self.hall.held))

    def test_holds_from_before_the_block_that_are_taken_back_in_it(self):
        with self.hall.trial() as hall:
            hall.undo()
            hall.undo()
            self.assertRaises(NothingToUndo, hall.undo)
            self.assertEqual((MEETINGS, 0), (hall.left, hall.changes))
            hall.hold(((0, 1), (1, 0)))
        self.assert_as_before()
        self.hall.undo()
        self.hall.undo()
        self.assertEqual((MEETINGS, 0, 0), (self.hall.left, self.hall.held, self.hall.changes))

    def test_a_block_that_begins_later_than_the_call(self):
        trial = self.hall.trial()
        self.hall.hold(PAIR)
        later = told_by(self.hall)
        with trial:
            self.hall.undo()
        self.assertEqual(later, told_by(self.hall))

    def test_exceptions_are_passed_on(self):
        for error in (ValueError("x"), KeyError(), Stop(), KeyboardInterrupt(), GeneratorExit(), TooMany(ONE)):
            with self.assertRaises(type(error)) as caught:
                with self.hall.trial() as hall:
                    hall.hold(PAIR)
                    raise error
            self.assertIs(error, caught.exception)
            self.assert_as_before()
        with self.assertRaises(TooMany):
            with self.hall.trial() as hall:
                hall.hold(PAIR)
                hall.hold(PAIR, 7)
        self.assert_as_before()

    def test_blocks_that_are_left(self):
        def leave(hall):
            with hall.trial():
                hall.hold(PAIR)
                return hall.held

        self.assertEqual(3, leave(self.hall))
        self.assert_as_before()
        for times in (1, 2):
            with self.hall.trial():
                self.hall.hold(NONE, times)
                continue
        self.assert_as_before()
        while True:
            with self.hall.trial():
                self.hall.undo()
                break
        self.assert_as_before()

    def test_trials_within_trials(self):
        with self.hall.trial() as outer:
            outer.hold(PAIR)
            middle = told_by(outer)
            with outer.trial() as inner:
                inner.undo()
                inner.undo()
                with inner.trial():
                    inner.undo()
                self.assertEqual(1, inner.changes)
            self.assertEqual(middle, told_by(outer))
            with self.assertRaises(ValueError):
                with outer.trial() as inner:
                    inner.hold(((0, 1), (1, 0)))
                    raise ValueError
            self.assertEqual(middle, told_by(outer))
            with self.assertRaises(NothingToUndo):
                with outer.trial() as inner:
                    while True:
                        inner.undo()
            self.assertEqual(middle, told_by(outer))
        self.assert_as_before()

    def test_one_trial_for_several_blocks(self):
        trial = self.hall.trial()
        for _ in range(2):
            with trial as hall:
                hall.hold(PAIR)
            self.assert_as_before()
        with trial:
            self.hall.hold(PAIR)
            middle = told_by(self.hall)
            with trial:
                self.hall.undo()
                self.hall.undo()
            self.assertEqual(middle, told_by(self.hall))
        self.assert_as_before()

    def test_two_halls_in_one_statement(self):
        other = Hall(SCHOOL, MEETINGS)
        with self.hall.trial() as one, other.trial() as two:
            one.hold(PAIR)
            two.hold(ONE, 3)
            self.assertEqual((3, 1), (one.changes, two.changes))
        self.assert_as_before()
        self.assertEqual((MEETINGS, 0), (other.left, other.changes))

    def test_tried(self):
        def action(hall):
            self.assertIs(self.hall, hall)
            hall.hold(PAIR)
            return hall.left, hall.changes

        told = (minus(self.hall.left, PAIR), 3)
        self.assertEqual(told, self.hall.tried(action))
        self.assert_as_before()
        self.assertEqual(told, self.hall.tried(action=action))
        for value in (None, (), Touchy(), 0):
            self.assertIs(value, self.hall.tried(lambda hall: value))
        self.assertIs(self.hall, self.hall.tried(lambda hall: hall))
        self.assertIsNone(self.hall.tried(Hall.undo))
        self.assert_as_before()

    def test_actions_that_fail_and_actions_within_actions(self):
        error = Stop()

        def failing(hall):
            hall.hold(PAIR)
            raise error

        with self.assertRaises(Stop) as caught:
            self.hall.tried(failing)
        self.assertIs(error, caught.exception)
        self.assert_as_before()

        def nested(hall):
            hall.undo()
            with self.assertRaises(Stop):
                hall.tried(failing)
            hall.tried(lambda other: other.undo())
            return hall.changes

        self.assertEqual(1, self.hall.tried(nested))
        self.assert_as_before()

    def test_many_holds(self):
        hall = Hall(fair_of((1,), (1,)), ((MOST,),))
        for _ in range(20000):
            hall.hold(((1,),))
        with hall.trial():
            for _ in range(20000):
                hall.undo()
            self.assertEqual(0, hall.changes)
        self.assertEqual((20000, 20000, 0), (hall.changes, hall.held, hall.lost()))
        del hall


if __name__ == "__main__":
    unittest.main()
