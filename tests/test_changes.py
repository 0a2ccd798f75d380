"""Changes that help, promise [9] and the interface of meetrounds.changes."""

import itertools
import random
import unittest

from meetrounds import changes as changes_file
from meetrounds.changes import helping
from meetrounds.errors import InvalidAsked, InvalidChanges, NotAFair
from meetrounds.fairs import Fair
from odd import GREAT, ODD, EqualToAll, Touchy
from plain import MOST, SCHOOL, WIDE, any_case, fair_of, load_of, nothing
from wrong import MEETINGS, WRONG_FAIRS, WRONG_NUMBERS, WrongCase, wrong_tables

ASKED = ((MEETINGS, 4),)
RIGHT = {"fair": SCHOOL, "changes": (("ann", 2), ("tables", 3)), "asked": ASKED}


def changed(fair, changes):
    """The fair behind these changes, by the words of the interface."""
    new = dict(changes)
    tables = new.pop("tables", fair.tables)
    hosts = tuple((name, new.get(name, bound)) for name, bound in fair.hosts)
    guests = tuple((name, new.get(name, bound)) for name, bound in fair.guests)
    return Fair(hosts, guests, tables)


def helping_of(fair, changes, asked):
    """All least sets, found by trying all sets and all their parts."""
    indexes = range(len(changes))
    sets = [one for size in range(len(changes) + 1) for one in itertools.combinations(indexes, size)]
    doing = set()
    for one in sets:
        other = changed(fair, [changes[index] for index in one])
        if all(load_of(other, meetings) <= rounds for meetings, rounds in asked):
            doing.add(one)
    return tuple(
        one for one in sets
        if one in doing and not any(set(part) < set(one) for part in doing)
    )


def any_changes(source, fair):
    """Any changes of the fair."""
    names = source.sample([*fair.names, "tables"], source.randrange(min(6, len(fair) + 2)))
    return tuple((name, source.randrange(1, 13 if name == "tables" else 5)) for name in names)


def any_asked(source, fair, changes, meetings):
    """Any loads that are asked for, near to those that these changes or others can bring about."""
    asked = []
    for _ in range(source.randrange(1, 4)):
        other = changed(fair, source.choice((changes, changes, any_changes(source, fair))))
        table = tuple(tuple(source.choice((many, many, many // 2)) for many in row) for row in meetings)
        asked.append((table, max(0, load_of(other, table) + source.choice((0, 0, 0, 1, -1)))))
    return tuple(asked)


class HelpingTest(WrongCase):
    def test_the_examples_of_the_document(self):
        three = (("ann", 2), ("bob", 2), ("x", 2))
        self.assertEqual((), helping(SCHOOL, three, ((((3, 2), (1, 4)), 4),)))
        self.assertEqual(((0, 1, 3),), helping(SCHOOL, (*three, ("tables", 3)), ((((3, 2), (1, 4)), 4),)))
        self.assertEqual(((),), helping(SCHOOL, (), ((((3, 2), (1, 4)), 5),)))

    def test_against_trying_all_sets(self):
        source = random.Random(61)
        sizes = set()
        for _ in range(500):
            fair, meetings = any_case(source)
            changes = any_changes(source, fair)
            asked = any_asked(source, fair, changes, meetings)
            with self.subTest(fair=str(fair), changes=changes, asked=asked):
                told = helping(fair, changes, asked)
                self.assertEqual(helping_of(fair, changes, asked), told)
                self.assertTrue(all(type(one) is tuple for one in (told, *told)))
                sizes |= {len(one) for one in told}
        self.assertTrue({0, 1, 2, 3} <= sizes, sizes)

    def test_a_change_that_is_in_the_way_of_others(self):
        # The tables are to stay as they are: with all three changes there would be too few of them.
        fair = fair_of((1, 1), (4, 4), 6)
        asked = ((((3, 3), (3, 3)), 2),)
        changes = (("a", 3), ("tables", 5), ("b", 3), ("w", 4), ("x", 2))
        self.assertEqual(((0, 2),), helping(fair, changes, asked))
        self.assertEqual((), helping(fair, (("a", 3), ("b", 2)), asked))
        self.assertEqual(((1, 2, 4),), helping(Fair(fair.hosts, fair.guests, 5), (
            ("x", 3), ("a", 4), ("tables", 12), ("w", 2), ("b", 3)
        ), asked))

    def test_changes_for_the_worse_are_left_out(self):
        fair = fair_of((2,), (2,), 2)
        self.assertEqual(((),), helping(fair, (("a", 1), ("w", 1), ("tables", 1)), ((((4,),), 2),)))
        self.assertEqual((), helping(fair, (("a", 1), ("w", 1), ("tables", 1)), ((((4,),), 1),)))
        self.assertEqual(((0, 1, 2),), helping(fair, (("a", 4), ("w", 4), ("tables", 4)), ((((4,),), 1),)))

    def test_no_changes_and_nothing_asked(self):
        for fair in (SCHOOL, WIDE, fair_of((4,), (1,), 1)):
            self.assertEqual(((),), helping(fair, (), ()))
            self.assertEqual(((),), helping(fair, (), ((nothing(fair), 0),)))
            many = tuple((name, 1) for name in fair.names[:4]) + (("tables", 1),)
            self.assertEqual(((),), helping(fair, many, ()))
            self.assertEqual(((),), helping(fair, many, ((nothing(fair), 0), (nothing(fair), GREAT))))
        self.assertEqual((), helping(SCHOOL, (), ((MEETINGS, 4),)))
        self.assertEqual((), helping(SCHOOL, (), ((MEETINGS, 0),)))

    def test_the_same_bound_as_before(self):
        same = (("ann", 1), ("bob", 1), ("x", 1), ("y", 2), ("tables", 2))
        self.assertEqual(((),), helping(SCHOOL, same, ((MEETINGS, 5),)))
        self.assertEqual((), helping(SCHOOL, same, ((MEETINGS, 4),)))
        self.assertEqual(((1,),), helping(fair_of((1,), (4,)), (("w", 4), ("a", 2)), ((((2,),), 1),)))

    def test_five_changes_that_are_all_needed(self):
        fair = fair_of((1, 1), (1, 1), 1)
        changes = (("tables", 8), ("x", 4), ("b", 4), ("w", 4), ("a", 4))
        self.assertEqual(((0, 1, 2, 3, 4),), helping(fair, changes, ((((2, 2), (2, 2)), 1),)))
        great = ((MOST // 2,) * 2,) * 2
        self.assertEqual(((0, 1, 2, 3, 4),), helping(fair, changes, ((great, MOST // 4),)))
        self.assertEqual((), helping(fair, changes, ((great, MOST // 4 - 1),)))

    def test_tables_that_were_as_many_as_are_wanted(self):
        fair = fair_of((4, 4), (4, 4))
        asked = ((((4, 0), (0, 4)), 1),)
        self.assertEqual(((),), helping(fair, (("tables", 7),), asked))
        self.assertEqual(((),), helping(fair, (("tables", 12),), asked))

    def test_names_like_the_word_for_the_tables(self):
        for hosts, guests in (((("tables", 1),), (("x", 4),)), ((("a", 4),), (("tables", 1),))):
            fair = Fair(hosts, guests, 4)
            # The word stands for the tables, so the bound of this host or guest stays as it is.
            for number in range(1, 13):
                self.assertEqual((), helping(fair, (("tables", number),), ((((4,),), 3),)))
                self.assertEqual(((),), helping(fair, (("tables", number),), ((((4,),), 4),)))
            self.assert_error(InvalidChanges, 0, helping, fair, (("tables", 13),), ())
        fair = Fair((("tables", 4),), (("x", 4),), 1)
        self.assertEqual(((0,),), helping(fair, (("tables", 4),), ((((4,),), 1),)))

    def test_several_loads_are_asked_for(self):
        fair = fair_of((1, 1), (2, 2), 2)
        one, other = (((2, 0), (0, 0)), 1), (((0, 0), (0, 2)), 1)
        changes = (("b", 2), ("a", 2))
        self.assertEqual(((1,),), helping(fair, changes, (one,)))
        self.assertEqual(((0,),), helping(fair, changes, (other,)))
        self.assertEqual(((0, 1),), helping(fair, changes, (one, other)))
        self.assertEqual(((0, 1),), helping(fair, changes, (one, other) * 30))

    def test_great_meetings(self):
        fair = fair_of((1, 2), (4, 3), 12)
        asked = ((((MOST, 0), (0, MOST)), MOST // 3),)
        self.assertEqual((), helping(fair, (("a", 3), ("b", 3)), asked))
        self.assertEqual((), helping(fair, (("a", 4), ("b", 4)), asked))
        self.assertEqual(((0, 1, 2),), helping(fair, (("a", 4), ("b", 4), ("x", 4)), asked))
        asked = ((((MOST, 0), (0, MOST)), MOST // 3 + 1),)
        self.assertEqual(((0, 1),), helping(fair, (("a", 3), ("b", 3)), asked))


class HelpingErrorsTest(WrongCase):
    def test_wrong_fairs_and_the_order_of_errors(self):
        self.assert_given(NotAFair, "fair", WRONG_FAIRS, helping, RIGHT)
        self.assert_order(helping, RIGHT)

    def test_values_that_are_no_tuples(self):
        for value in [value for value in ODD if not isinstance(value, tuple)] + [[("ann", 2)], {"ann": 2}, "ab"]:
            with self.subTest(kind=type(value)):
                self.assert_error(InvalidChanges, None, helping, SCHOOL, value, ASKED)
                self.assert_error(InvalidAsked, None, helping, SCHOOL, (), value)

    def test_elements_that_are_no_changes(self):
        wrong = tuple(value for value in ODD if type(value) is not tuple or value != ("ann", 1)) + (
            ("ann", 0), ("ann", 5), ("ann", True), ("ann", None), ("ann", "2"), ("ann", -1), ("ann", GREAT), ("ann",),
            ("ann", 2, 2), ["ann", 2], ("cid", 2), ("Ann", 2), ("", 2), (b"ann", 2), (("ann",), 2), (2, "ann"),
            ("tables", 0), ("tables", 13), ("tables", None), ("tables", True), ("tables", "2"), ("tables",),
            ("table", 2), ("<", 2), (EqualToAll(), 2), (Touchy(), 2), ("ann", EqualToAll()), ("ann", Touchy()),
        )
        for value in wrong:
            with self.subTest(kind=type(value)):
                self.assert_error(InvalidChanges, 0, helping, SCHOOL, (value,), ASKED)
                self.assert_error(InvalidChanges, 0, helping, SCHOOL, (value, value), None)
                self.assert_error(InvalidChanges, 1, helping, SCHOOL, (("bob", 1), value, ("bob", 1)), ASKED)

    def test_changes_of_the_same(self):
        for first, again in ((("ann", 1), ("ann", 1)), (("y", 1), ("y", 4)), (("tables", 3), ("tables", 12))):
            self.assert_error(InvalidChanges, 1, helping, SCHOOL, (first, again), ASKED)
            self.assert_error(InvalidChanges, 2, helping, SCHOOL, (first, ("bob", 3), again, again), ASKED)

    def test_the_sixth_change(self):
        fair = fair_of((1, 1, 1), (1, 1, 1), 3)
        six = (("a", 1), ("b", 2), ("c", 3), ("w", 4), ("x", 1), ("y", 1))
        self.assert_error(InvalidChanges, 5, helping, fair, six, ())
        self.assert_error(InvalidChanges, 5, helping, fair, six[:5] + (None,), ())
        self.assert_error(InvalidChanges, 5, helping, fair, six[:5] + six[:1] + (None,), ())
        self.assert_error(InvalidChanges, 4, helping, fair, six[:4] + six[:1] + six[4:], ())
        self.assertEqual(((),), helping(fair, six[:5], ()))

    def test_elements_that_are_not_asked_for(self):
        for table, _ in wrong_tables():
            self.assert_error(InvalidAsked, 0, helping, SCHOOL, (), ((table, 5),))
            self.assert_error(InvalidAsked, 1, helping, SCHOOL, (), ((MEETINGS, 5), (table, 5), None))
        for rounds in WRONG_NUMBERS:
            self.assert_error(InvalidAsked, 0, helping, SCHOOL, (), ((MEETINGS, rounds),))
            self.assert_error(InvalidAsked, 2, helping, SCHOOL, (), ((MEETINGS, 5), (MEETINGS, 0), (MEETINGS, rounds)))
        for value in ODD + ((MEETINGS,), (MEETINGS, 5, 5), [MEETINGS, 5], (5, MEETINGS), MEETINGS):
            self.assert_error(InvalidAsked, 0, helping, SCHOOL, (), (value, value))
            self.assert_error(InvalidAsked, 1, helping, SCHOOL, (), ((MEETINGS, 4), value))

    def test_arguments_by_position_and_by_name(self):
        told = helping(*RIGHT.values())
        self.assertEqual(told, helping(**dict(reversed(RIGHT.items()))))
        self.assertEqual(told, helping(Fair.read(str(SCHOOL)), (("ann", 2), ("tables", 3)), ((((3, 2), (1, 4)), 4),)))
        self.assertEqual("meetrounds.changes", changes_file.helping.__module__)


if __name__ == "__main__":
    unittest.main()
