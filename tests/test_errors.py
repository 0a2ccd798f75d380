"""The error classes, promise [4]."""

import unittest

from meetrounds import errors
from odd import GREAT, ODD

BASES = {"WrongValue": ValueError, "WrongName": LookupError, "NoAnswer": ArithmeticError}

TOLD = {
    "WrongValue": {
        "given": (
            "InvalidText", "InvalidNumber", "InvalidName", "InvalidTables", "InvalidRound", "InvalidSchedule",
            "InvalidWish", "InvalidIndex", "NotAFair",
        ),
        "index": (
            "InvalidHosts", "InvalidGuests", "InvalidMeetings", "InvalidUrgent", "InvalidGrowth", "InvalidChanges",
            "InvalidAsked",
        ),
    },
    "WrongName": {"given": ("UnknownName",)},
    "NoAnswer": {"given": ("TooFewRounds", "TooMany"), "index": ("Broken",)},
}

WITH_ATTRIBUTE = [
    (base, attribute, name)
    for base, attributes in TOLD.items() for attribute, names in attributes.items() for name in names
]


def package_classes(error_class):
    """The names of the classes of this package under which a class stands, itself included."""
    return [one.__name__ for one in error_class.__mro__ if one.__module__.split(".")[0] == "meetrounds"]


class ErrorsTest(unittest.TestCase):
    def test_the_base_classes(self):
        for name, python_class in BASES.items():
            with self.subTest(name=name):
                base = getattr(errors, name)
                self.assertEqual((python_class,), base.__bases__)
                self.assertEqual([name], package_classes(base))
                self.assertEqual("meetrounds.errors", base.__module__)

    def test_each_class_stands_under_one_base_class(self):
        told = WITH_ATTRIBUTE + [("NoAnswer", None, "NothingToUndo")]
        self.assertEqual(21, len(told))
        for base, _, name in told:
            with self.subTest(name=name):
                error_class = getattr(errors, name)
                self.assertEqual([name, base], package_classes(error_class))
                self.assertEqual((getattr(errors, base),), error_class.__bases__)
                self.assertTrue(issubclass(error_class, BASES[base]))
                self.assertEqual("meetrounds.errors", error_class.__module__)
                for other, python_class in BASES.items():
                    self.assertEqual(other == base, issubclass(error_class, python_class))

    def test_the_attribute_is_kept_by_position_and_by_name(self):
        for _, attribute, name in WITH_ATTRIBUTE:
            error_class = getattr(errors, name)
            for value in ODD + (GREAT ** 2, [GREAT], (None, [{}])):
                with self.subTest(name=name, kind=type(value)):
                    for error in (error_class(value), error_class(**{attribute: value})):
                        self.assertEqual([attribute], list(vars(error)))
                        self.assertIs(value, getattr(error, attribute))

    def test_each_class_takes_just_its_attribute(self):
        for _, attribute, name in WITH_ATTRIBUTE:
            error_class = getattr(errors, name)
            other = {"given": "index", "index": "given"}[attribute]
            with self.subTest(name=name):
                self.assertRaises(TypeError, error_class)
                self.assertRaises(TypeError, error_class, 1, 2)
                self.assertRaises(TypeError, error_class, **{other: 1})

    def test_nothing_to_undo_has_no_attribute(self):
        self.assertEqual({}, vars(errors.NothingToUndo()))
        self.assertRaises(TypeError, errors.NothingToUndo, 1)

    def test_each_class_can_be_raised_and_caught_by_its_base_class(self):
        for base, attribute, name in WITH_ATTRIBUTE:
            with self.subTest(name=name):
                with self.assertRaises(getattr(errors, base)) as caught:
                    raise getattr(errors, name)(GREAT)
                self.assertEqual(GREAT, getattr(caught.exception, attribute))
        with self.assertRaises(errors.NoAnswer):
            raise errors.NothingToUndo()


if __name__ == "__main__":
    unittest.main()
