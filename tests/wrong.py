"""Wrong arguments of each kind for calls about the fair of the document, and the errors that they are to raise."""

import itertools
import unittest

from meetrounds.errors import (
    InvalidAsked, InvalidChanges, InvalidGrowth, InvalidMeetings, InvalidNumber, InvalidUrgent, NotAFair, TooFewRounds,
    UnknownName,
)
from odd import GREAT, ODD, EqualToAll, Touchy
from plain import MOST, SCHOOL

MEETINGS = ((3, 2), (1, 4))

# For each argument a wrong value, its error, and what that tells.
ONE_WRONG = {
    "fair": ("no fair", NotAFair, "no fair"),
    "meetings": (((1, 2), [3, 4]), InvalidMeetings, 1),
    "rounds": (True, InvalidNumber, True),
    "first": (7, InvalidNumber, 7),
    "host": ("x", UnknownName, "x"),
    "guest": ("bob", UnknownName, "bob"),
    "many": (-3, InvalidNumber, -3),
    "urgent": (((3, 2), (2, 4)), InvalidUrgent, 1),
    "start": (((9, 9), (9, 10)), InvalidMeetings, 1),
    "growth": (((3, 4), (3, 3)), InvalidGrowth, 0),
    "changes": ((("ann", 1), ("ann", 2)), InvalidChanges, 1),
    "asked": (((MEETINGS, 5), (MEETINGS, -1)), InvalidAsked, 1),
}

# For each argument that is a table the error of those that are none.
TABLE_ERRORS = {
    "meetings": InvalidMeetings, "urgent": InvalidUrgent, "start": InvalidMeetings, "growth": InvalidGrowth,
}

WRONG_FAIRS = ODD + (str(SCHOOL), (SCHOOL.hosts, SCHOOL.guests), SCHOOL.hosts, [SCHOOL], (SCHOOL,), type(SCHOOL))

NO_NUMBERS = tuple(value for value in ODD if type(value) is not int)
WRONG_NUMBERS = NO_NUMBERS + (-1, -GREAT, True, False, "1", b"1", (1,), [1], {1: 1})

_WRONG_CELLS = NO_NUMBERS + (-1, -GREAT, MOST + 1, GREAT, True, False, "1", (1,), [1])
_WRONG_ROWS = ODD + (
    (), (1,), (1, 2, 3), [1, 2], "12", b"12", {0: 1, 1: 2}, ((1, 2),), range(2), 3,
)


def wrong_tables():
    """Values that are no tables of meetings of the fair, with the index that is to be told."""
    for value in ODD:
        if not isinstance(value, tuple) or len(value) != 2:
            yield value, None
    wrong = ([[3, 2], [1, 4]], [(3, 2), (1, 4)], ((3, 2),), ((3, 2), (1, 4), (0, 0)), (3, 2, 1, 4), (None,), ((),) * 4)
    for value in wrong + ({0: (3, 2), 1: (1, 4)}, "ab", b"ab", (None, (3, 2), (1, 4)), ((1, True), (0, 0), (0, 0))):
        yield value, None
    for row in _WRONG_ROWS:
        yield (row, (1, 4)), 0
        yield ((3, 2), row), 1
        yield (row, row), 0
    for cell in _WRONG_CELLS:
        yield ((cell, 2), (1, 4)), 0
        yield ((3, cell), (1, 4)), 0
        yield ((3, 2), (cell, 4)), 1
        yield ((3, 2), (1, cell)), 1
        yield ((3, cell), (cell, 4)), 0
    yield (((3, 2), [1, 4]), 1)


def wrong_names(right):
    """Values that are none of these names, of the two sides of the fair."""
    others = ("ann", "bob", "x", "y", "", "an", "Ann", "ann ", " ann", "x\n", "host", "tables", "annbob", "xy", "y 2")
    more = (b"ann", b"x", ("ann",), ("x",), ["ann"], ("ann", 1), ("x", 1), EqualToAll(), Touchy(), 0, 1, SCHOOL)
    return tuple(value for value in ODD + others + more if not (isinstance(value, str) and value in right))


class WrongCase(unittest.TestCase):
    """Calls that are to raise an error; `call` stands for the function, `right` for right arguments by name."""

    def assert_error(self, error, told, call, *args, **named):
        with self.assertRaises(error) as caught:
            call(*args, **named)
        self.assertIs(error, type(caught.exception))
        (attribute,) = vars(caught.exception)
        value = getattr(caught.exception, attribute)
        if isinstance(told, int):
            self.assertIs(type(told), type(value))
            self.assertEqual(told, value)
        else:
            self.assertIs(told, value)

    def assert_given(self, error, name, values, call, right):
        """Each of these values raises the error with the value as what was given."""
        for value in values:
            with self.subTest(call=call.__name__, name=name, kind=type(value)):
                self.assert_error(error, value, call, **{**right, name: value})

    def assert_tables(self, name, call, right):
        """Each value that is no table raises the error with the index of its first wrong row."""
        for value, index in wrong_tables():
            with self.subTest(call=call.__name__, name=name, index=index):
                self.assert_error(TABLE_ERRORS[name], index, call, **{**right, name: value})

    def assert_all(self, call, right):
        """Wrong values for each argument that all calls have in common raise their errors."""
        self.assert_given(NotAFair, "fair", WRONG_FAIRS, call, right)
        for name in TABLE_ERRORS:
            if name in right:
                self.assert_tables(name, call, right)
        if "rounds" in right:
            wrong = [value for value in WRONG_NUMBERS if value is not None or call.__name__ != "schedule"]
            self.assert_given(InvalidNumber, "rounds", wrong, call, right)
        if "host" in right:
            self.assert_given(UnknownName, "host", wrong_names(("ann", "bob")), call, right)
            self.assert_given(UnknownName, "guest", wrong_names(("x", "y")), call, right)

    def assert_order(self, call, right):
        """Of several wrong arguments the first one is told, by position and by name."""
        names = [name for name in right if name in ONE_WRONG]
        for many in range(1, len(names) + 1):
            for chosen in itertools.combinations(names, many):
                with self.subTest(call=call.__name__, wrong=chosen):
                    _, error, told = ONE_WRONG[chosen[0]]
                    named = {**right, **{name: ONE_WRONG[name][0] for name in chosen}}
                    self.assert_error(error, told, call, **named)
                    self.assert_error(error, told, call, *named.values())

    def assert_too_few(self, call, right):
        """Fewer rounds than the load, which is 5, raise TooFewRounds with the load, behind all other errors."""
        for rounds in range(5):
            few = {**right, "rounds": rounds}
            if "first" in few:
                few["first"] = rounds // 2
            with self.subTest(call=call.__name__, rounds=rounds):
                self.assert_error(TooFewRounds, 5, call, **few)
                self.assert_error(TooFewRounds, 5, call, *few.values())
                self.assert_order(call, few)
