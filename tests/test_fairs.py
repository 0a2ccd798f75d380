"""Fairs and their texts, promises [3] to [6] and the interface of meetrounds.fairs."""

import itertools
import re
import unittest
from unittest import mock

from meetrounds.errors import InvalidGuests, InvalidHosts, InvalidTables, InvalidText
from meetrounds.fairs import Fair
from odd import GREAT, ODD, EqualToAll, Touchy

A = (("a", 1),)
X = (("x", 2),)
FOUR_HOSTS = (("a", 1), ("b", 2), ("c", 3), ("d", 4))
FOUR_GUESTS = (("w", 4), ("x", 3), ("y", 2), ("z", 1))
GREATEST = Fair((("abcdefgh", 4), ("b", 3), ("c", 2), ("d", 1)), (("a1234567", 4), ("x", 3), ("y", 2), ("z0", 1)), 12)
BAD_NAMES = (
    "", "abcdefghi", "A", "aB", "1a", "1", " ", "a ", " a", "a b", "a\n", "\n", "a_", None, True, 1, b"a", ("a",),
    ["a"], EqualToAll(), Touchy(),
)
BAD_BOUNDS = (0, 5, -1, GREAT, -GREAT, True, False, None, "1", b"1", (1,), [1], EqualToAll(), Touchy())


def is_text(text):
    """Whether a string is the text of a fair, found in another way than the package does."""
    name = "[a-z][a-z0-9]{0,7}"
    form = rf"(host {name} [1-4]\n){{1,4}}(guest {name} [1-4](\n|\Z)){{1,4}}(tables ([1-9]|1[0-2]))?"
    if text.endswith("\n") or not re.fullmatch(form, text):
        return False
    names = re.findall(rf"(?:host|guest) ({name}) ", text)
    return len(set(names)) == len(names)


def edits(text):
    """Texts that differ from this one in one place."""
    signs = "\n 01234abtz9-+_AHg."
    for at in range(len(text) + 1):
        yield text[:at] + text[at + 1:]
        for sign in signs:
            yield text[:at] + sign + text[at:]
            yield text[:at] + sign + text[at + 1:]


class FairCase(unittest.TestCase):
    def assert_index(self, error, index, *args, **named):
        with self.assertRaises(error) as caught:
            Fair(*args, **named)
        self.assertIs(error, type(caught.exception))
        if index is None:
            self.assertIsNone(caught.exception.index)
        else:
            self.assertIs(int, type(caught.exception.index))
            self.assertEqual(index, caught.exception.index)

    def assert_no_text(self, value):
        with self.assertRaises(InvalidText) as caught:
            Fair.read(value)
        self.assertIs(value, caught.exception.given)


class MadeFairsTest(FairCase):
    def test_the_examples_of_the_document(self):
        school = Fair.read("host ann 1\nhost bob 1\nguest x 1\nguest y 2\ntables 2")
        wide = Fair((("ann", 1), ("bob", 1)), (("x", 1), ("y", 2)))
        self.assertEqual(
            [("ann", "bob", "x", "y"), 2, None, True, 4, "guest y 2", False],
            [school.names, school.tables, wide.tables, "x" in school, len(school), str(wide).split("\n")[-1],
             school == wide],
        )
        self.assert_index(InvalidGuests, 0, (("a", 1),), (("a", 1),))

    def test_one_to_four_hosts_and_guests(self):
        for hosts, guests in itertools.product(range(1, 5), repeat=2):
            with self.subTest(hosts=hosts, guests=guests):
                fair = Fair(FOUR_HOSTS[:hosts], FOUR_GUESTS[:guests])
                self.assertEqual(FOUR_HOSTS[:hosts], fair.hosts)
                self.assertEqual(FOUR_GUESTS[:guests], fair.guests)
                self.assertEqual(tuple("abcd"[:hosts] + "wxyz"[:guests]), fair.names)
                self.assertEqual(hosts + guests, len(fair))

    def test_what_was_passed_is_kept_as_it_is(self):
        hosts = (("bob", 4), ("ann", 1))
        guests = (("y", 2), ("x", 3))
        fair = Fair(hosts, guests, 7)
        self.assertIs(hosts, fair.hosts)
        self.assertIs(guests, fair.guests)
        self.assertEqual(7, fair.tables)
        self.assertEqual(("bob", "ann", "y", "x"), fair.names)
        self.assertIs(tuple, type(fair.names))
        self.assertEqual(((("bob", 4), ("ann", 1)), (("y", 2), ("x", 3))), (hosts, guests))

    def test_arguments_by_position_and_by_name(self):
        fair = Fair(A, X, 3)
        for other in (Fair(A, X, tables=3), Fair(A, guests=X, tables=3), Fair(tables=3, guests=X, hosts=A)):
            self.assertEqual(fair, other)
        self.assertEqual(Fair(A, X), Fair(hosts=A, guests=X, tables=None))
        self.assertIsNone(Fair(guests=X, hosts=A).tables)
        self.assertEqual(fair, Fair.read(text="host a 1\nguest x 2\ntables 3"))

    def test_wrong_arguments_by_name(self):
        self.assert_index(InvalidHosts, None, hosts=[], guests=X)
        self.assert_index(InvalidGuests, 0, guests=A, hosts=A)
        with self.assertRaises(InvalidTables) as caught:
            Fair(tables=13, guests=X, hosts=A)
        self.assertEqual(13, caught.exception.given)
        with self.assertRaises(InvalidText):
            Fair.read(text="")

    def test_bounds_from_one_to_four(self):
        for bound in range(1, 5):
            fair = Fair((("a", bound),), (("x", 5 - bound),))
            self.assertEqual(f"host a {bound}\nguest x {5 - bound}", str(fair))

    def test_tables(self):
        for tables in range(1, 13):
            fair = Fair(A, X, tables)
            self.assertEqual(tables, fair.tables)
            self.assertEqual(f"host a 1\nguest x 2\ntables {tables}", str(fair))
        self.assertIsNone(Fair(A, X, None).tables)

    def test_wrong_tables(self):
        odd = [value for value in ODD if value is not None and not (type(value) is int and 1 <= value <= 12)]
        for value in odd + [0, 13, -1, True, False, "2", (2,), [2]]:
            with self.subTest(kind=type(value)):
                with self.assertRaises(InvalidTables) as caught:
                    Fair(A, X, value)
                self.assertIs(value, caught.exception.given)

    def test_a_fair_stays_as_it_was_made(self):
        fair = Fair(A, X, 3)
        for name in ("hosts", "guests", "tables", "names"):
            with self.assertRaises(AttributeError):
                setattr(fair, name, ())
        self.assertEqual((A, X, 3, ("a", "x")), (fair.hosts, fair.guests, fair.tables, fair.names))


class WrongSidesTest(FairCase):
    def setUp(self):
        # What is asked of hosts and of guests is the same: each side stands alone here.
        self.sides = (
            (InvalidHosts, lambda side: (side, (("guest", 1),))),
            (InvalidGuests, lambda side: ((("host", 1),), side)),
        )

    def assert_side(self, index, side):
        for error, arguments in self.sides:
            with self.subTest(error=error, index=index):
                self.assert_index(error, index, *arguments(side))

    def test_no_tuple(self):
        for value in ODD:
            if not isinstance(value, tuple):
                self.assert_side(None, value)
        for value in ([("a", 1)], {"a": 1}, {("a", 1)}, "a1", Fair(A, X)):
            self.assert_side(None, value)

    def test_none_of_them(self):
        self.assert_side(None, ())

    def test_a_fifth(self):
        self.assert_side(4, FOUR_HOSTS + (("e", 1),))
        self.assert_side(4, FOUR_HOSTS + (("e", 1), ("f", 1)))
        self.assert_side(4, FOUR_HOSTS + (None,))
        self.assert_side(3, FOUR_HOSTS[:3] + (None, ("e", 1)))
        self.assert_side(3, FOUR_HOSTS[:3] + (("a", 1), ("e", 1)))

    def test_elements_that_are_no_pairs(self):
        for value in ODD + (("a",), ("a", 1, 1), ["a", 1], "a1", (1, "a"), {"a": 1, "b": 2}, (("a", 1),), ("a", (1,))):
            if isinstance(value, tuple) and value == ("ann", 1):
                continue
            self.assert_side(0, (value,))
            self.assert_side(1, (("a", 1), value, value))
            self.assert_side(3, (("a", 1), ("b", 1), ("c", 1), value))

    def test_names_that_are_none(self):
        for name in BAD_NAMES:
            self.assert_side(0, ((name, 1),))
            self.assert_side(2, (("a", 1), ("b", 1), (name, 1), ("a", 1)))

    def test_bounds_that_are_none(self):
        for bound in BAD_BOUNDS:
            self.assert_side(0, (("a", bound),))
            self.assert_side(1, (("a", 1), ("b", bound)))

    def test_names_used_before(self):
        self.assert_side(1, (("a", 1), ("a", 2)))
        self.assert_side(2, (("a", 1), ("b", 1), ("a", 1), ("b", 1)))
        self.assert_side(3, (("a", 1), ("b", 1), ("c", 1), ("c", 1), ("e", 1)))

    def test_the_first_wrong_element_is_told(self):
        self.assert_side(1, (("a", 1), ("b", 5), ("a", 1), None))
        self.assert_side(0, (("a", True), ("a", 1)))

    def test_names_of_hosts_among_the_guests(self):
        self.assert_index(InvalidGuests, 1, FOUR_HOSTS, (("x", 1), ("d", 1)))
        self.assert_index(InvalidGuests, 0, FOUR_HOSTS, (("b", 1), ("c", 1)))
        self.assert_index(InvalidGuests, 3, A, (("b", 1), ("c", 1), ("d", 1), ("a", 1), ("e", 1)))
        self.assert_index(InvalidGuests, 1, A, (("x", 1), ("x", 1), ("a", 1)))

    def test_hosts_are_looked_at_before_guests_and_these_before_tables(self):
        self.assert_index(InvalidHosts, 0, (("a", 0),), (), 0)
        self.assert_index(InvalidHosts, None, [], [], 0)
        self.assert_index(InvalidGuests, None, A, (), 0)
        self.assert_index(InvalidGuests, 0, A, A, 0)
        self.assert_index(InvalidHosts, 1, A + A, A, True)


class TextsTest(FairCase):
    def test_the_text_without_and_with_tables(self):
        hosts, guests = (("ann", 1), ("b2", 4)), (("x", 3), ("y", 2))
        text = "host ann 1\nhost b2 4\nguest x 3\nguest y 2"
        self.assertEqual(text, str(Fair(hosts, guests)))
        self.assertEqual(text + "\ntables 12", str(Fair(hosts, guests, 12)))
        self.assertIs(str, type(str(Fair(hosts, guests))))

    def test_each_text_is_read_as_the_fair_it_is_of(self):
        sides = itertools.product(range(1, 5), range(1, 5), (None, 1, 2, 9, 10, 11, 12))
        for hosts, guests, tables in sides:
            fair = Fair(FOUR_HOSTS[:hosts], FOUR_GUESTS[:guests], tables)
            with self.subTest(text=str(fair)):
                read = Fair.read(str(fair))
                self.assertIs(Fair, type(read))
                self.assertEqual(fair, read)
                self.assertEqual(str(fair), str(read))
                self.assertEqual(
                    (fair.hosts, fair.guests, fair.tables, fair.names),
                    (read.hosts, read.guests, read.tables, read.names),
                )

    def test_names_like_the_words_of_a_text(self):
        fair = Fair((("host", 1), ("tables", 2)), (("guest", 3), ("host1", 4)), 5)
        self.assertEqual("host host 1\nhost tables 2\nguest guest 3\nguest host1 4\ntables 5", str(fair))
        self.assertEqual(fair, Fair.read(str(fair)))

    def test_texts_that_are_none(self):
        wrong = (
            "", " ", "\n", "\n\n", "host", "host a", "host a 1", "guest x 1", "tables 1", "host a 1\ntables 1",
            "guest x 1\ntables 1", "host a 01\nguest x 1", "host a 1\nguest x 01", "host a 1\nguest x 1\ntables 01",
            "host a 1\nguest x 1\ntables 012", "host a +1\nguest x 1", "host a 1\nguest x -1",
            "host a 1\nguest x 1\ntables +1", "host a 1\nguest x 1\ntables -1", "host  a 1\nguest x 1",
            "host a  1\nguest x 1", "host a 1\nguest x 1\ntables  1", " host a 1\nguest x 1", "host a 1\nguest x 1 ",
            "host a 1 \nguest x 1", "host a 1\n guest x 1", "\nhost a 1\nguest x 1", "host a 1\nguest x 1\n",
            "host a 1\n\nguest x 1", "host a 1\nguest x 1\n\ntables 1", "host a 1\nguest x 1\ntables 1\n",
            "guest x 1\nhost a 1", "tables 1\nhost a 1\nguest x 1", "host a 1\ntables 1\nguest x 1",
            "host a 1\nguest x 1\nhost b 1", "host a 1\nhost a 1\nguest x 1", "host a 1\nguest x 1\nguest x 1",
            "host a 1\nguest a 1", "host a 1\nguest x 1\ntables 1\ntables 1", "host a 1\nguest x 1\ntables 1\ntables 2",
            "host a 0\nguest x 1", "host a 5\nguest x 1", "host a 1\nguest x 0", "host a 1\nguest x 5",
            "host a 1\nguest x 1\ntables 0", "host a 1\nguest x 1\ntables 13", "host a 1\nguest x 1\ntables None",
            "host a 1\nguest x 1\ntables", "host a 1\nguest x 1\ntables ", "host a 1\nguest x 1\nmore",
            "host a 1\nguest x 1\nmore x 1", "host a\nguest x 1", "host a 1 1\nguest x 1", "host a 1\nguest x 1 1",
            "Host a 1\nguest x 1", "host A 1\nguest x 1", "host 1 1\nguest x 1", "host abcdefghi 1\nguest x 1",
            "hosts a 1\nguest x 1", "host a 1\nguest x 1.0", "host a one\nguest x 1", "host a 1, guest x 1",
            "host a 1\nguest x 1\ntables 1 2", "host a 1_\nguest x 1", "host  1\nguest x 1", "host a \nguest x 1",
            "host a 1\nguest x " + "1" * 1900, "host a 1\nguest x 1\ntables " + "0" * 1900, "host a 1\n" * 200,
            "\n".join(f"host {name} 1" for name in "abcde") + "\nguest x 1",
            "host a 1\n" + "\n".join(f"guest {name} 1" for name in "vwxyz"),
        )
        for text in wrong:
            with self.subTest(text=text):
                self.assertFalse(is_text(text))
                self.assert_no_text(text)

    def test_values_that_are_no_strings(self):
        text = "host a 1\nguest x 1"
        for value in ODD + (text.encode(), (text,), [text], Fair.read(text), tuple(text.split("\n")), GREAT):
            with self.subTest(kind=type(value)):
                self.assert_no_text(value)

    def test_strings_that_differ_in_one_place_from_a_text(self):
        for fair in (Fair(A, X), Fair((("a", 1), ("b1", 4)), (("t", 2),), 10), GREATEST):
            for text in edits(str(fair)):
                if is_text(text):
                    self.assertEqual(text, str(Fair.read(text)))
                else:
                    self.assert_no_text(text)

    def test_lines_in_all_orders_and_numbers(self):
        lines = ("host a 1", "host b 2", "guest x 3", "guest a 4", "tables 5", "")
        for many in range(6):
            for chosen in itertools.product(lines, repeat=many):
                text = "\n".join(chosen)
                if is_text(text):
                    self.assertEqual(text, str(Fair.read(text)))
                else:
                    self.assert_no_text(text)


class OperatorsTest(FairCase):
    def assert_equal_is(self, truth, left, right):
        self.assertIs(truth, left == right)
        self.assertIs(not truth, left != right)

    def test_equal_fairs(self):
        fair = Fair(A, X, 3)
        for other in (fair, Fair(A, X, 3), Fair((("a", 1),), (("x", 2),), 3), Fair.read(str(fair))):
            self.assert_equal_is(True, fair, other)
            self.assert_equal_is(True, other, fair)

    def test_unequal_fairs(self):
        fairs = (
            Fair(A, X), Fair(A, X, 3), Fair(A, X, 4), Fair((("a", 2),), X), Fair((("b", 1),), X), Fair(A, (("x", 1),)),
            Fair(A, (("y", 2),)), Fair(X, A), Fair(A + X, (("y", 1),)), Fair(X + A, (("y", 1),)),
            Fair(A, X + (("y", 1),)), Fair(A, (("y", 1),) + X), Fair(FOUR_HOSTS, FOUR_GUESTS), GREATEST,
        )
        for (at, left), (to, right) in itertools.product(enumerate(fairs), repeat=2):
            with self.subTest(at=at, to=to):
                self.assert_equal_is(at == to, left, right)

    def test_no_fair_equals_a_value_of_another_class(self):
        fair = Fair(A, X, 3)
        alike = (str(fair), str(fair).encode(), (A, X, 3), [A, X, 3], ("a", "x"), A, "a", 2, mock.ANY)
        for value in ODD + alike:
            with self.subTest(kind=type(value)):
                self.assert_equal_is(False, fair, value)
                if not isinstance(value, (EqualToAll, Touchy)) and value is not mock.ANY:
                    self.assert_equal_is(False, value, fair)

    def test_a_name_is_in_a_fair(self):
        fair = Fair((("ann", 1), ("bob", 1)), (("x", 1), ("y12", 2)), 2)
        for name in ("ann", "bob", "x", "y12"):
            self.assertIs(True, name in fair)
            self.assertIs(False, name not in fair)

    def test_anything_else_is_not_in_a_fair(self):
        fair = Fair((("anna", 1), ("bob", 1)), (("x", 1), ("y12", 2)), 2)
        others = (
            "an", "ann", "annas", "Anna", "y1", "12", "", " x", "x ", "x\n", "anna bob", "host", "tables", "host anna 1",
            b"x", ("x",), ["x"], ("x", 1), ("anna", "bob", "x", "y12"), fair, mock.ANY, str(fair), fair.names,
        )
        for value in ODD + others:
            with self.subTest(kind=type(value)):
                self.assertIs(False, value in fair)
                self.assertIs(True, value not in fair)

    def test_every_fair_is_true(self):
        for fair in (Fair(A, X), Fair(A, X, 1), GREATEST):
            self.assertIs(True, bool(fair))

    def test_the_number_of_names(self):
        self.assertEqual(2, len(Fair(A, X, 12)))
        self.assertEqual(5, len(Fair(FOUR_HOSTS, X)))
        self.assertEqual(8, len(GREATEST))

    def test_the_interface_is_defined_in_the_class_itself(self):
        self.assertEqual("meetrounds.fairs", Fair.__module__)
        for name in ("read", "hosts", "guests", "tables", "names", "__contains__", "__len__", "__str__", "__eq__"):
            self.assertIn(name, vars(Fair))


if __name__ == "__main__":
    unittest.main()
