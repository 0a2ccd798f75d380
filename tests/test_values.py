"""What an integer, a name and a pair is, promise [3]."""

import unittest

from meetrounds.values import is_integer, is_name, is_pair
from odd import GREAT, ODD, EqualToAll, Touchy

LETTERS = "abcdefghijklmnopqrstuvwxyz"
DIGITS = "0123456789"
PRINTABLE = "".join(map(chr, range(ord(" "), ord("~") + 1)))


class IntegerTest(unittest.TestCase):
    def test_integers_between_the_limits(self):
        for value in (1, 2, 4):
            self.assertIs(True, is_integer(value, 1, 4))
        self.assertIs(True, is_integer(0, 0, 0))
        self.assertIs(True, is_integer(-3, -3, GREAT))
        self.assertIs(True, is_integer(GREAT, 0, GREAT))

    def test_integers_beyond_the_limits(self):
        for value in (-1, 0, 5, GREAT, -GREAT):
            self.assertIs(False, is_integer(value, 1, 4))

    def test_integers_from_a_limit_on(self):
        for value in (0, 1, GREAT, GREAT ** 2):
            self.assertIs(True, is_integer(value, 0))
            self.assertIs(value > 0, is_integer(value, 1))
        for value in (-1, -GREAT, True, False, None, "1", (1,), EqualToAll(), Touchy()):
            self.assertIs(False, is_integer(value, 0))

    def test_true_and_false_are_no_integers(self):
        self.assertIs(False, is_integer(True, 0, 4))
        self.assertIs(False, is_integer(False, 0, 4))

    def test_other_kinds(self):
        for value in ODD:
            if type(value) is not int:
                self.assertIs(False, is_integer(value, -GREAT, GREAT))


class PairTest(unittest.TestCase):
    def test_pairs_and_other_values(self):
        for value in ((1, 2), (None, ()), ((), ()), (EqualToAll(), Touchy())):
            self.assertIs(True, is_pair(value))
        for value in ODD + ([1, 2], (1,), (1, 2, 3), "ab", {1: 2, 3: 4}):
            self.assertIs(type(value) is tuple and len(value) == 2, is_pair(value))


class NameTest(unittest.TestCase):
    def test_names(self):
        for value in ("a", "z", "ann", "a1", "a0b9", "abcdefgh", "a1234567", "z9999999", "host", "tables"):
            with self.subTest(value=value):
                self.assertIs(True, is_name(value))

    def test_no_names(self):
        wrong = (
            "", "abcdefghi", "a12345678", "A", "Ann", "anN", "1", "1a", "0ann", " ", " a", "a ", "a b", "a\n", "\na",
            "\n", "a_b", "_a", "a-b", "a.b", "abcdefgh\n", "x" * 2000,
        )
        for value in wrong:
            with self.subTest(value=value):
                self.assertIs(False, is_name(value))

    def test_each_character_as_the_first_and_as_a_later_one(self):
        for sign in PRINTABLE + "\n":
            with self.subTest(sign=sign):
                self.assertIs(sign in LETTERS, is_name(sign))
                self.assertIs(sign in LETTERS, is_name(sign + "b"))
                self.assertIs(sign in LETTERS + DIGITS, is_name("b" + sign))
                self.assertIs(sign in LETTERS + DIGITS, is_name("bcdefgh" + sign))

    def test_other_kinds(self):
        for value in ODD:
            if not isinstance(value, str):
                self.assertIs(False, is_name(value))
        for value in (b"ann", ("a",), ["a", "b"], {"a": 1}, 7, EqualToAll(), Touchy()):
            self.assertIs(False, is_name(value))


if __name__ == "__main__":
    unittest.main()
