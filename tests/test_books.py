"""Books and wishes, promise [14] and the interface of meetrounds.books."""

import random
import unittest

from meetrounds import books
from meetrounds.books import Book
from meetrounds.errors import (
    Broken, InvalidIndex, InvalidName, InvalidWish, NotAFair, NothingToUndo, UnknownName,
)
from meetrounds.fairs import Fair
from meetrounds.front import front_range
from meetrounds.kept import kept
from meetrounds.loads import load
from meetrounds.urgent import first_rounds
from odd import GREAT, ODD, EqualToAll, Touchy
from plain import (
    MOST, SCHOOL, WIDE, any_case, any_first, any_rounds, any_within, fair_of, great_cases, pairs_of, wish_holds,
)
from wrong import MEETINGS, NO_NUMBERS, WRONG_FAIRS, WRONG_NUMBERS, WrongCase

LOAD = ("load", "f", MEETINGS, 5)
FRONT = ("front", "f", MEETINGS, 5, 1, "ann", "x", 1)
URGENT = ("urgent", "f", MEETINGS, 5, ((3, 0), (1, 0)), 4)
KEPT = ("kept", "f", MEETINGS, 3, 6)
WISHES = (LOAD, FRONT, URGENT, KEPT)

SLOW = Fair(SCHOOL.hosts, SCHOOL.guests, 1)
QUICK = Fair((("ann", 1), ("bob", 2)), (("x", 4), ("y", 4)))

# Values that are no wishes, whatever fairs there are.
WRONG_CELLS = NO_NUMBERS + (-1, MOST + 1, GREAT, True, False)
WRONG_NAMES = tuple(value for value in ODD if not (isinstance(value, str) and value in ("a", "ann"))) + (
    "A", "", "abcdefghi", "1a", "a b", "a\n", "<", ">", b"f", ("f",), EqualToAll(), Touchy(),
)
WRONG_TABLES = ODD + (
    (), ((),), ((), ()), ((1,), ()), ((1,),) * 5, ((1,) * 5,), ((1, 2), [3, 4]), [(1, 2)], ((1, 2), 3), (1, 2), 5, "12",
) + tuple(((1, 2), (3, cell)) for cell in WRONG_CELLS)


class Stop(BaseException):
    """An exception that only a handler of its own catches."""


def told_by(book):
    """All that a book tells."""
    return book.names, [book[name] for name in book.names], book.wishes, book.changes, len(book)


def any_wish(source, name, fair, meetings):
    """Any wish about the fair, near to what just holds for it."""
    rounds = any_rounds(source, load(fair, meetings))
    miss = source.choice((0, 0, 0, 1, -1, -1))
    kind = source.randrange(4)
    if kind == 0:
        return ("load", name, meetings, max(0, load(fair, meetings) - miss))
    if kind == 1:
        first = any_first(source, rounds)
        _, _, host, guest = source.choice(list(pairs_of(fair)))
        most = front_range(fair, meetings, rounds, first, host, guest)[1]
        return ("front", name, meetings, rounds, first, host, guest, max(0, most - miss))
    if kind == 2:
        urgent = any_within(source, meetings)
        least = first_rounds(fair, meetings, rounds, urgent)
        return ("urgent", name, meetings, rounds, urgent, max(0, least - miss))
    rounds = rounds // source.randrange(1, 4)
    return ("kept", name, meetings, rounds, max(0, kept(fair, meetings, rounds) + miss))


class Model:
    """What a book is to tell, with all that it was kept in a list."""

    def __init__(self):
        self.states = [({}, ())]

    def now(self):
        return self.states[-1]

    def broken(self, fairs, wishes):
        """The index of the first wish that does not hold, None if all hold."""
        for index, wish in enumerate(wishes):
            if not wish_holds(fairs[wish[1]], wish):
                return index
        return None

    def told(self):
        fairs, wishes = self.now()
        names = tuple(sorted(fairs))
        return names, [fairs[name] for name in names], wishes, len(self.states) - 1, len(fairs)


class BookTest(WrongCase):
    def setUp(self):
        self.book = Book()
        self.book["f"] = SCHOOL

    def assert_broken(self, index, call, *args):
        """The call raises Broken with this index, and nothing has changed."""
        before = told_by(self.book)
        self.assert_error(Broken, index, call, *args)
        self.assertEqual(before, told_by(self.book))

    def assert_edge(self, wish, broken):
        """A wish holds, and another one is broken."""
        self.assertIsNone(self.book.wish(wish))
        self.assertIs(wish, self.book.wishes[-1])
        self.assert_broken(len(self.book.wishes), self.book.wish, broken)
        self.assertIsNone(self.book.undo())
        self.assert_broken(len(self.book.wishes), self.book.wish, broken)

    def test_the_examples_of_the_document(self):
        book = Book()
        book["school"] = SCHOOL
        self.assertIsNone(book.wish(("load", "school", ((3, 2), (1, 4)), 5)))
        told = [book.names, book.changes, len(book), book["school"] == SCHOOL]
        self.assertEqual([("school",), 2, 1, True], told)
        wish = ("urgent", "school", ((3, 2), (1, 4)), 5, ((3, 0), (1, 0)), 3)
        self.assert_error(Broken, 1, book.wish, wish)

    def test_an_empty_book(self):
        book = Book()
        self.assertEqual(((), [], (), 0, 0), told_by(book))
        self.assertTrue(book)
        self.assertIs(True, bool(book))
        for value in ODD:
            self.assertIs(False, value in book)
        self.assertRaises(NothingToUndo, book.undo)
        for index in (0, -1, 1):
            self.assert_error(InvalidIndex, index, book.lift, index)
        self.assertEqual(((), [], (), 0, 0), told_by(book))

    def test_each_kind_of_wish_at_its_edge(self):
        self.assert_edge(LOAD, ("load", "f", MEETINGS, 4))
        self.assert_edge(FRONT, ("front", "f", MEETINGS, 5, 1, "ann", "x", 0))
        self.assert_edge(URGENT, ("urgent", "f", MEETINGS, 5, ((3, 0), (1, 0)), 3))
        self.assert_edge(KEPT, ("kept", "f", MEETINGS, 3, 7))

    def test_wishes_with_too_few_rounds(self):
        none = ((0, 0), (0, 0))
        for wish in (
            ("front", "f", MEETINGS, 4, 1, "ann", "x", 9), ("front", "f", MEETINGS, 4, 5, "ann", "x", 9),
            ("front", "f", MEETINGS, 5, 6, "ann", "x", GREAT), ("urgent", "f", MEETINGS, 4, none, 0),
            ("urgent", "f", MEETINGS, 5, none, 6), ("urgent", "f", MEETINGS, 4, MEETINGS, 5),
        ):
            self.assert_broken(0, self.book.wish, wish)
        for wish in (
            ("kept", "f", MEETINGS, 0, 0), ("front", "f", none, 0, 0, "ann", "x", 0), ("urgent", "f", none, 0, none, 0),
            ("front", "f", MEETINGS, 5, 5, "ann", "x", GREAT), ("urgent", "f", MEETINGS, 5, MEETINGS, 5),
            ("load", "f", none, 0), ("load", "f", MEETINGS, GREAT), ("kept", "f", MEETINGS, GREAT, 10),
            ("front", "f", MEETINGS, GREAT, GREAT, "ann", "x", 3), ("urgent", "f", MEETINGS, GREAT, MEETINGS, GREAT),
        ):
            self.assertIsNone(self.book.wish(wish))

    def test_wishes_whose_parts_do_not_fit_the_fair(self):
        others = (((3, 2),), ((3, 2), (1, 4), (0, 0)), ((3,), (1,)), ((3, 2), (1,)), ((0, 0, 0), (0, 0, 0)), ((0,),))
        for table in others:
            for wish in (
                ("load", "f", table, GREAT), ("front", "f", table, 9, 0, "ann", "x", 9), ("kept", "f", table, 9, 0),
                ("urgent", "f", table, 9, table, 9), ("urgent", "f", MEETINGS, 9, table, 9),
                ("urgent", "f", table, 9, MEETINGS, 9),
            ):
                self.assert_broken(0, self.book.wish, wish)
        pairs = (("x", "ann"), ("ann", "bob"), ("x", "y"), ("cid", "x"), ("ann", "z"), ("f", "x"), ("ann", "f"))
        for host, guest in pairs:
            self.assert_broken(0, self.book.wish, ("front", "f", MEETINGS, 9, 0, host, guest, 9))
        for urgent in (((4, 0), (0, 0)), ((0, 3), (0, 0)), ((0, 0), (2, 0)), ((0, 0), (0, 5)), ((0, 0), (0, MOST))):
            self.assert_broken(0, self.book.wish, ("urgent", "f", MEETINGS, 9, urgent, 9))

    def test_great_wishes_against_the_modules_and_the_lots(self):
        for fair, meetings, source in great_cases(60, 81):
            self.book["f"] = fair
            rounds = any_rounds(source, load(fair, meetings))
            first = any_first(source, rounds)
            _, _, host, guest = source.choice(list(pairs_of(fair)))
            urgent = any_within(source, meetings)
            few = rounds // 3
            edges = (
                (("load", "f", meetings), load(fair, meetings), -1),
                (("front", "f", meetings, rounds, first, host, guest),
                 front_range(fair, meetings, rounds, first, host, guest)[1], -1),
                (("urgent", "f", meetings, rounds, urgent), first_rounds(fair, meetings, rounds, urgent), -1),
                (("kept", "f", meetings, few), kept(fair, meetings, few), 1),
            )
            for parts, number, miss in edges:
                with self.subTest(fair=str(fair), wish=(*parts, number)):
                    self.assertTrue(wish_holds(fair, (*parts, number)))
                    self.assertIsNone(self.book.wish((*parts, number)))
                    self.book.undo()
                    if number + miss >= 0:
                        self.assertFalse(wish_holds(fair, (*parts, number + miss)))
                        self.assert_broken(0, self.book.wish, (*parts, number + miss))
            self.book.undo()

    def test_any_changes_against_a_model(self):
        source = random.Random(82)
        seen = {"put": 0, "put broken": 0, "wish": 0, "wish broken": 0, "lift": 0, "undo": 0}
        for _ in range(70):
            cases = [any_case(source) for _ in range(2)]
            cases += [(Fair(fair.hosts, fair.guests, source.choice((None, 1, 5, 12))), table) for fair, table in cases]
            self.book, model = Book(), Model()
            for _ in range(16):
                self.do_any(source, cases, model, seen)
                self.assertEqual(model.told(), told_by(self.book))
            while model.states[1:]:
                self.book.undo()
                model.states.pop()
                self.assertEqual(model.told(), told_by(self.book))
            self.assertRaises(NothingToUndo, self.book.undo)
        self.assertGreater(min(seen.values()), 10, seen)

    def do_any(self, source, cases, model, seen):
        """One change of any kind of the book and the model alike."""
        fairs, wishes = model.now()
        kind = source.choice(("put", "put", "wish", "wish", "wish", "lift", "undo"))
        if kind == "undo":
            if model.states[1:]:
                self.assertIsNone(self.book.undo())
                model.states.pop()
                seen["undo"] += 1
            return
        if kind == "lift":
            if wishes:
                index = source.randrange(len(wishes))
                self.assertIsNone(self.book.lift(index))
                model.states.append((fairs, wishes[:index] + wishes[index + 1:]))
                seen["lift"] += 1
            return
        fair, meetings = source.choice(cases)
        name = source.choice(("b", "a", "c1"))
        if kind == "put":
            after = ({**fairs, name: fair}, wishes)
            call, args = self.book.__setitem__, (name, fair)
        else:
            fair, meetings = source.choice([case for case in cases if case[0] == fairs.get(name)] or [(fair, meetings)])
            wish = any_wish(source, name, fair, meetings)
            after = (fairs, (*wishes, wish))
            call, args = self.book.wish, (wish,)
            if name not in fairs:
                self.assert_error(UnknownName, name, *(call, *args))
                return
        broken = model.broken(*after)
        if broken is None:
            self.assertIsNone(call(*args))
            model.states.append(after)
            seen[kind] += 1
        else:
            self.assert_broken(broken, call, *args)
            seen[kind + " broken"] += 1

    def test_a_fair_in_the_place_of_another_one(self):
        for wish in WISHES:
            self.book.wish(wish)
        self.book["f"] = QUICK
        self.assertIs(QUICK, self.book["f"])
        self.book["g"] = SLOW
        self.assertEqual((("f", "g"), 7, 2), (self.book.names, self.book.changes, len(self.book)))
        self.assert_broken(0, self.book.__setitem__, "f", SLOW)
        self.book.lift(0)
        self.assert_broken(0, self.book.__setitem__, "f", SLOW)
        self.book.lift(0)
        self.book.lift(0)
        self.assertEqual((KEPT,), self.book.wishes)
        self.assert_broken(0, self.book.__setitem__, "f", SLOW)
        self.book.lift(0)
        self.book["f"] = SLOW
        self.assertIs(SLOW, self.book["f"])

    def test_a_fair_of_another_size_in_the_place_of_another_one(self):
        for wish in (LOAD, FRONT, URGENT, KEPT, ("kept", "f", MEETINGS, 9, 0), ("load", "f", ((0, 0), (0, 0)), 0)):
            self.book.wish(wish)
            for other in (fair_of((4,), (4, 4)), fair_of((4, 4), (4,)), fair_of((4,) * 3, (4,) * 2)):
                self.assert_broken(0, self.book.__setitem__, "f", other)
            self.book.undo()
        self.book.wish(FRONT)
        turned = Fair((("x", 4), ("bob", 4)), (("ann", 4), ("y", 4)))
        for other in (turned, Fair((("a", 1), ("bob", 1)), SCHOOL.guests)):
            self.assert_broken(0, self.book.__setitem__, "f", other)

    def test_the_first_wish_that_does_not_hold_is_told(self):
        self.book["g"] = SCHOOL
        for wish in (("kept", "g", MEETINGS, 3, 6), ("kept", "f", MEETINGS, 9, 8), LOAD, FRONT):
            self.book.wish(wish)
        self.assert_broken(2, self.book.__setitem__, "f", SLOW)
        self.assert_broken(0, self.book.__setitem__, "g", SLOW)
        self.assert_broken(4, self.book.wish, ("load", "g", MEETINGS, 4))
        self.book["h"] = SLOW

    def test_the_same_wish_and_the_same_fair_again(self):
        for count in range(1, 4):
            self.book.wish(LOAD)
            self.book["f"] = SCHOOL
            self.assertEqual(((LOAD,) * count, 1 + 2 * count), (self.book.wishes, self.book.changes))
        for count in range(7, 0, -1):
            self.assertEqual(count, self.book.changes)
            self.book.undo()
        self.assertEqual(((), [], (), 0, 0), told_by(self.book))

    def test_wishes_that_are_taken_away(self):
        for wish in WISHES:
            self.book.wish(wish)
        self.assertIsNone(self.book.lift(1))
        self.assertEqual((LOAD, URGENT, KEPT), self.book.wishes)
        self.book.lift(index=2)
        self.assertEqual((LOAD, URGENT), self.book.wishes)
        self.book.lift(0)
        self.assertEqual(((URGENT,), 8), (self.book.wishes, self.book.changes))
        self.book.undo()
        self.book.undo()
        self.book.undo()
        self.assertEqual((WISHES, 5), (self.book.wishes, self.book.changes))

    def test_names_and_fairs(self):
        book = Book()
        for name in ("b", "a1", "a", "z9999999", "host"):
            book[name] = WIDE
        self.assertEqual(("a", "a1", "b", "host", "z9999999"), book.names)
        self.assertEqual(5, len(book))
        for name in book.names:
            self.assertIs(True, name in book)
            self.assertIs(WIDE, book[name])
        for value in ("c", "A", "", "a ", b"a", ("a",), ["a"], 0, None, EqualToAll(), Touchy(), WIDE):
            self.assertIs(False, value in book)

    def test_a_wish_may_be_passed_on(self):
        for wish in WISHES:
            self.book.wish(wish=wish)
        other = Book()
        for name in self.book.names:
            other[name] = self.book[name]
        for wish in self.book.wishes:
            other.wish(wish)
        self.assertEqual(told_by(self.book), told_by(other))

    def test_books_are_equal_to_themselves_alone_and_true(self):
        one, other = Book(), Book()
        for book in (one, other, self.book):
            self.assertTrue(book)
            self.assertIs(True, book == book)
            self.assertIs(False, book != book)
            for value in [value for value in ODD if not isinstance(value, (EqualToAll, Touchy))] + [SCHOOL]:
                self.assertIs(False, book == value)
                self.assertIs(True, book != value)
        self.assertIs(False, one == other)
        self.assertIs(True, one != other)

    def test_books_go_their_own_ways(self):
        other = Book()
        self.assertEqual(((), [], (), 0, 0), told_by(other))
        other["f"] = WIDE
        self.assertIs(SCHOOL, self.book["f"])

    def test_the_interface_is_defined_in_its_file(self):
        self.assertEqual("meetrounds.books", books.Book.__module__)
        methods = ("__setitem__", "__getitem__", "__contains__", "__len__", "wish", "lift", "undo", "trial", "tried")
        for name in methods:
            self.assertTrue(callable(vars(Book)[name]))
        for name in ("names", "wishes", "changes"):
            self.assertIsInstance(vars(Book)[name], property)


class BookErrorsTest(WrongCase):
    def setUp(self):
        self.book = Book()
        self.book["f"] = SCHOOL
        for wish in WISHES:
            self.book.wish(wish)
        self.before = told_by(self.book)

    def assert_refused(self, error, told, call, *args, **named):
        """The call raises the error and changes nothing."""
        self.assert_error(error, told, call, *args, **named)
        self.assertEqual(self.before, told_by(self.book))

    def assert_no_wish(self, *wishes):
        for wish in wishes:
            self.assert_refused(InvalidWish, wish, self.book.wish, wish)
            self.assert_refused(InvalidWish, wish, self.book.wish, wish=wish)

    def test_names_that_are_none(self):
        for name in WRONG_NAMES:
            with self.subTest(kind=type(name)):
                for fair in (SCHOOL, SLOW, None):
                    self.assert_refused(InvalidName, name, self.book.__setitem__, name, fair)

    def test_fairs_that_are_none(self):
        for fair in WRONG_FAIRS:
            for name in ("f", "other"):
                self.assert_refused(NotAFair, fair, self.book.__setitem__, name, fair)

    def test_names_that_the_book_does_not_have(self):
        others = ("g", "ff", "F", "f ", "school", "ann", b"f", ("f",), ["f"], {"f": 1}, 0, SCHOOL)
        for name in ODD + others + (EqualToAll(), Touchy()):
            with self.subTest(kind=type(name)):
                self.assert_refused(UnknownName, name, self.book.__getitem__, name)
        for name in ("g", "ff", "school", "ann", "abcdefgh"):
            for wish in WISHES:
                self.assert_refused(UnknownName, name, self.book.wish, (wish[0], name, *wish[2:]))

    def test_an_unknown_name_is_told_ahead_of_a_broken_wish(self):
        self.assert_refused(UnknownName, "g", self.book.wish, ("load", "g", MEETINGS, 4))
        self.assert_refused(UnknownName, "g", self.book.wish, ("load", "g", ((1,), (1, 2)), 4))
        wish = ("load", "g", MEETINGS, -1)
        self.assert_refused(InvalidWish, wish, self.book.wish, wish)

    def test_values_that_are_no_wishes(self):
        self.assert_no_wish(*ODD, "load", ("load",), ("load", "f"), list(LOAD), dict(enumerate(LOAD)), (LOAD,))
        for wish in WISHES:
            self.assert_no_wish(wish[:-1], wish + (1,), wish + (None,), list(wish), (wish,), wish[1:], wish[::-1])
            for kind in ODD + ("late", "Load", "loads", b"load", ("load",), EqualToAll(), Touchy()):
                self.assert_no_wish((kind, *wish[1:]))
            for other in WISHES:
                if other[0] != wish[0]:
                    self.assert_no_wish((other[0], *wish[1:]))

    def test_wishes_with_a_wrong_part(self):
        kinds = {"load": "nti", "front": "ntiinni", "urgent": "ntiti", "kept": "ntii"}
        wrong = {"n": WRONG_NAMES, "t": WRONG_TABLES, "i": WRONG_NUMBERS}
        for wish in WISHES:
            for at, kind in enumerate(kinds[wish[0]], 1):
                for value in wrong[kind]:
                    with self.subTest(wish=wish[0], at=at, kind=type(value)):
                        self.assert_no_wish((*wish[:at], value, *wish[at + 1:]))

    def test_tables_of_wishes_of_any_form(self):
        for table in (((0,),), ((MOST,) * 4,) * 4, ((1,), (2, 3), (4, 5, 6), (7, 8, 9, 10)), ((1, 2), (3,))):
            self.assert_refused(Broken, 4, self.book.wish, ("load", "f", table, GREAT))
            self.assert_refused(Broken, 4, self.book.wish, ("urgent", "f", MEETINGS, 9, table, 9))
            self.assert_refused(UnknownName, "g", self.book.wish, ("kept", "g", table, 0, 0))

    def test_indexes_that_are_none(self):
        for index in NO_NUMBERS + (-1, 4, 5, GREAT, -GREAT, True, False, "0", (0,), [0]):
            with self.subTest(kind=type(index)):
                self.assert_refused(InvalidIndex, index, self.book.lift, index)
                self.assert_refused(InvalidIndex, index, self.book.lift, index=index)

    def test_a_book_is_not_iterated_over(self):
        with self.assertRaises(TypeError):
            list(self.book)
        self.assertEqual(self.before, told_by(self.book))


class BookTrialTest(WrongCase):
    def setUp(self):
        self.book = Book()
        self.book["f"] = SCHOOL
        self.book.wish(LOAD)
        self.before = told_by(self.book)

    def assert_as_before(self):
        self.assertEqual(self.before, told_by(self.book))

    def change(self, book):
        """Changes of each kind."""
        book["g"] = WIDE
        book.wish(("load", "g", MEETINGS, 5))
        book.lift(0)
        book["f"] = SLOW

    def test_a_call_alone_changes_nothing(self):
        trial = self.book.trial()
        self.assertTrue(trial)
        self.assert_as_before()
        self.change(self.book)
        self.assertEqual(6, self.book.changes)

    def test_a_block_in_which_nothing_happens(self):
        with self.book.trial() as book:
            self.assertIs(self.book, book)
        self.assert_as_before()
        with self.assertRaises(Stop):
            with self.book.trial():
                raise Stop
        self.assert_as_before()

    def test_a_block_that_ends_without_an_exception(self):
        with self.book.trial() as book:
            self.change(book)
            inside = told_by(book)
        self.assertEqual(inside, told_by(self.book))
        self.assertEqual(6, self.book.changes)
        for count in range(5, 1, -1):
            self.book.undo()
            self.assertEqual(count, self.book.changes)
        self.assert_as_before()

    def test_a_block_that_ends_with_an_exception(self):
        for error in (ValueError("x"), KeyError(), Stop(), KeyboardInterrupt(), GeneratorExit(), Broken(3)):
            with self.assertRaises(type(error)) as caught:
                with self.book.trial() as book:
                    self.change(book)
                    raise error
            self.assertIs(error, caught.exception)
            self.assert_as_before()
        with self.assertRaises(Broken):
            with self.book.trial() as book:
                book["g"] = WIDE
                book["f"] = SLOW
        self.assert_as_before()
        self.book.undo()
        self.assertEqual((("f",), (), 1), (self.book.names, self.book.wishes, self.book.changes))

    def test_an_exception_that_is_caught_in_the_block(self):
        with self.book.trial() as book:
            book["g"] = WIDE
            self.assertRaises(Broken, book.wish, ("load", "g", MEETINGS, 4))
        self.assertEqual((("f", "g"), 3), (self.book.names, self.book.changes))

    def test_changes_from_before_the_block_that_are_taken_back_in_it(self):
        with self.assertRaises(NothingToUndo):
            with self.book.trial() as book:
                while True:
                    book.undo()
        self.assert_as_before()
        with self.assertRaises(Stop):
            with self.book.trial() as book:
                book.undo()
                book.undo()
                book["h"] = WIDE
                raise Stop
        self.assert_as_before()
        with self.book.trial() as book:
            book.undo()
            book.undo()
        self.assertEqual(((), [], (), 0, 0), told_by(self.book))

    def test_blocks_that_are_left(self):
        def leave(book):
            with book.trial():
                book["g"] = WIDE
                return book.changes

        self.assertEqual(3, leave(self.book))
        self.assertEqual(3, self.book.changes)
        for name in ("h", "i"):
            with self.book.trial():
                self.book[name] = WIDE
                continue
        while True:
            with self.book.trial():
                self.book.wish(LOAD)
                break
        self.assertEqual((("f", "g", "h", "i"), 6), (self.book.names, self.book.changes))

    def test_trials_within_trials(self):
        with self.book.trial() as outer:
            outer["g"] = WIDE
            middle = told_by(outer)
            with self.assertRaises(Stop):
                with outer.trial() as inner:
                    inner.undo()
                    inner.undo()
                    with inner.trial():
                        inner.undo()
                    raise Stop
            self.assertEqual(middle, told_by(outer))
            with outer.trial() as inner:
                inner["h"] = WIDE
        self.assertEqual((("f", "g", "h"), 4), (self.book.names, self.book.changes))
        before = told_by(self.book)
        with self.assertRaises(Stop):
            with self.book.trial() as outer:
                with outer.trial() as inner:
                    inner["i"] = WIDE
                    inner.lift(0)
                self.assertEqual(6, outer.changes)
                raise Stop
        self.assertEqual(before, told_by(self.book))

    def test_one_trial_for_several_blocks(self):
        trial = self.book.trial()
        with trial:
            self.book["g"] = WIDE
        later = told_by(self.book)
        with self.assertRaises(Stop):
            with trial:
                self.book.undo()
                with self.assertRaises(KeyError):
                    with trial:
                        self.book.undo()
                        raise KeyError
                self.assert_as_before()
                self.book.undo()
                raise Stop
        self.assertEqual(later, told_by(self.book))

    def test_tried(self):
        def action(book):
            self.assertIs(self.book, book)
            book["g"] = WIDE
            return book.changes

        self.assertEqual(3, self.book.tried(action))
        self.assertEqual(4, self.book.tried(action=action))
        self.assertEqual(4, self.book.changes)
        for value in (None, (), Touchy(), 0):
            self.assertIs(value, self.book.tried(lambda book: value))
        self.assertIsNone(self.book.tried(Book.undo))
        self.assertEqual(3, self.book.changes)

    def test_actions_that_fail_and_actions_within_actions(self):
        error = Stop()

        def failing(book):
            self.change(book)
            raise error

        with self.assertRaises(Stop) as caught:
            self.book.tried(failing)
        self.assertIs(error, caught.exception)
        self.assert_as_before()

        def nested(book):
            book["g"] = WIDE
            with self.assertRaises(Stop):
                book.tried(failing)
            book.tried(lambda other: other.lift(0))
            return book.names, book.wishes

        self.assertEqual((("f", "g"), ()), self.book.tried(nested))
        self.assertEqual(4, self.book.changes)

    def test_nothing_to_undo(self):
        self.book.undo()
        self.book.undo()
        for _ in range(3):
            self.assertRaises(NothingToUndo, self.book.undo)
            self.assertEqual(((), [], (), 0, 0), told_by(self.book))


if __name__ == "__main__":
    unittest.main()
