"""The checker, promise [16] and the interface of meetrounds.checker."""

import itertools
import random
import unittest

from claims import changed, claim_fair, is_shown, is_true
from meetrounds import checker
from meetrounds.certificates import certify_front, certify_kept, certify_late, certify_load
from meetrounds.checker import accepts
from odd import GREAT, ODD, EqualToAll, Touchy
from plain import (
    MOST, SCHOOL, any_case, any_first, any_within, fair_of, load_of, nothing, pairs_of, tables_within,
)

MEETINGS = ((3, 2), (1, 4))
TEXT = str(SCHOOL)


def some_papers():
    """Claims with certificates about the fair of the document and some others."""
    yield certify_load(SCHOOL, MEETINGS)
    yield certify_load(SCHOOL, nothing(SCHOOL))
    yield certify_load(fair_of((2,), (3, 1)), ((5, 2),))
    yield certify_load(fair_of((4, 3), (2,), 5), ((7,), (6,)))
    yield certify_kept(SCHOOL, MEETINGS, 3)
    yield certify_kept(SCHOOL, MEETINGS, 9)
    yield certify_kept(fair_of((1, 4), (1, 4)), ((9, 9), (9, 0)), 2)
    yield certify_kept(fair_of((1, 4), (1, 4), 5), ((9, 9), (9, 0)), 2)
    yield certify_front(SCHOOL, MEETINGS, 5, 1, "ann", "x")
    yield certify_front(SCHOOL, ((3, 0), (0, 3)), 3, 2, "bob", "y")
    yield certify_front(SCHOOL, ((3, 0), (0, 3)), 3, 2, "bob", "x")
    yield certify_front(fair_of((2, 1), (3,)), ((7,), (2,)), 6, 2, "a", "w")
    yield certify_late(SCHOOL, MEETINGS, 5, ((3, 0), (1, 0)))
    yield certify_late(SCHOOL, MEETINGS, 9, MEETINGS)
    fair, meetings = fair_of((1, 1, 1), (1, 1, 1), 3), ((1, 1, 0), (0, 1, 1), (1, 0, 1))
    yield certify_late(fair, meetings, 2, ((1, 0, 0), (0, 0, 1), (0, 0, 0)))


def any_papers(source):
    """Any claims with certificates, about any fair and any meetings."""
    fair, meetings = any_case(source)
    rounds = load_of(fair, meetings) + source.choice((0, 1, 5))
    _, _, host, guest = source.choice(list(pairs_of(fair)))
    yield certify_load(fair, meetings)
    yield certify_kept(fair, meetings, rounds // 2)
    yield certify_front(fair, meetings, rounds, any_first(source, rounds), host, guest)
    late = certify_late(fair, meetings, rounds, any_within(source, meetings))
    if late is not None:
        yield late


def parts_of(words):
    """All tuples of different ones of these words, in one order each."""
    return [one for size in range(len(words) + 1) for one in itertools.combinations(words, size)]


class CheckerTest(unittest.TestCase):
    def assert_judged(self, claim, certificate):
        """The checker accepts just what is shown, and that is true."""
        told = accepts(claim, certificate)
        self.assertIs(is_shown(claim, certificate), told)
        if told:
            self.assertTrue(is_true(claim))
        return told

    def test_the_examples_of_the_document(self):
        claim, paper = certify_load(SCHOOL, MEETINGS)
        self.assertIs(True, accepts(claim, paper))
        self.assertIs(False, accepts(claim, ()))
        self.assertIs(True, accepts(("kept", TEXT, MEETINGS, 3, 6), (((3, 0), (0, 3)), None)))

    def test_each_part_of_a_claim_or_a_certificate_changed(self):
        accepted = 0
        for claim, certificate in some_papers():
            self.assertTrue(self.assert_judged(claim, certificate))
            for other in changed(claim):
                with self.subTest(claim=claim[0]):
                    accepted += self.assert_judged(other, certificate)
            for other in changed(certificate):
                with self.subTest(claim=claim[0]):
                    accepted += self.assert_judged(claim, other)
        self.assertGreater(accepted, 60)

    def test_parts_of_both_changed(self):
        source = random.Random(101)
        papers = list(some_papers())
        accepted = 0
        for claim, certificate in papers:
            claims, certificates = list(changed(claim)), list(changed(certificate))
            for _ in range(400):
                accepted += self.assert_judged(source.choice(claims), source.choice(certificates))
        for (claim, _), (_, certificate) in itertools.product(papers, repeat=2):
            self.assert_judged(claim, certificate)
        self.assertGreater(accepted, 10)

    def test_great_claims_with_a_part_changed(self):
        source = random.Random(102)
        for _ in range(40):
            for claim, certificate in any_papers(source):
                self.assertTrue(self.assert_judged(claim, certificate))
                claims, certificates = list(changed(claim)), list(changed(certificate))
                for _ in range(12):
                    self.assert_judged(source.choice(claims), certificate)
                    self.assert_judged(claim, source.choice(certificates))

    def test_all_small_loads(self):
        for fair in (fair_of((1,), (2,)), fair_of((3,), (2,), 1)):
            rounds = [((0,),), ((1,),), ((2,),)]
            plans = [()] + [(block,) for block in itertools.product(rounds, (1, 2, 3))]
            plans += list(itertools.product(itertools.product(rounds, (1, 2)), repeat=2))
            reasons = (None, ("host", "a"), ("guest", "w"), ("tables",), ("host", "w"), ("guest", "a"), ("host",), ())
            for many, length in itertools.product(range(5), repeat=2):
                claim = ("load", str(fair), ((many,),), length)
                told = [self.assert_judged(claim, (plan, reason)) for plan in plans for reason in reasons]
                self.assertEqual(is_true(claim), any(told))

    def test_all_small_kept_tables(self):
        for fair in (fair_of((1, 1), (1,)), fair_of((1, 2), (2,), 2)):
            meetings = ((2,), (3,))
            tables = tables_within(((3,), (4,)))
            cuts = [None] + list(itertools.product(parts_of("ab"), parts_of("w")))
            for rounds, many in itertools.product(range(5), range(7)):
                claim = ("kept", str(fair), meetings, rounds, many)
                told = [self.assert_judged(claim, paper) for paper in itertools.product(tables, cuts)]
                self.assertEqual(is_true(claim), any(told))

    def test_all_small_fronts(self):
        for fair in (fair_of((1, 1), (2,)), fair_of((2, 1), (2,), 2)):
            meetings = ((2,), (1,))
            tables = tables_within(((2,), (2,)))
            lots = [None] + parts_of("ab<>w")
            for rounds, first, host, many in itertools.product(range(4), range(5), "ab", range(3)):
                claim = ("front", str(fair), meetings, rounds, first, host, "w", many)
                told = [self.assert_judged(claim, paper) for paper in itertools.product(tables, lots)]
                self.assertEqual(is_true(claim), any(told))

    def test_all_small_late_ones(self):
        for fair in (fair_of((1, 1), (2,)), fair_of((2, 1), (2,), 2)):
            meetings = ((2,), (1,))
            for rounds, first, urgent in itertools.product(range(4), range(5), tables_within(((3,), (1,)))):
                claim = ("late", str(fair), meetings, rounds, urgent, first)
                told = [self.assert_judged(claim, lot) for lot in parts_of("ab<>w")]
                self.assertEqual(is_true(claim), any(told))

    def test_lots_and_cuts_in_any_order(self):
        claim, lot = certify_late(SCHOOL, MEETINGS, 5, ((3, 0), (1, 0)))
        for other in itertools.permutations(lot):
            self.assertIs(True, accepts(claim, other))
        claim, (table, lot) = certify_front(SCHOOL, MEETINGS, 5, 1, "ann", "x")
        for other in itertools.permutations(lot):
            self.assertIs(True, accepts(claim, (table, other)))
        claim = ("kept", TEXT, MEETINGS, 9, 10)
        for hosts in itertools.permutations(("ann", "bob")):
            self.assertIs(True, accepts(claim, (MEETINGS, (hosts, ()))))
        fair = fair_of((4, 4), (1, 1), 12)
        claim = ("kept", str(fair), ((9, 9), (9, 9)), 2, 4)
        for guests in itertools.permutations(("w", "x")):
            self.assertIs(True, accepts(claim, (((1, 1), (1, 1)), (("a", "b"), guests))))
            self.assertIs(True, accepts(claim, (((2, 2), (0, 0)), (("b", "a"), guests))))
            self.assertIs(False, accepts(claim, (((1, 1), (1, 1)), ((), guests))))
            self.assertIs(False, accepts(claim, (((1, 1), (1, 1)), (("a", "a"), guests))))

    def test_schedules_of_any_kind_show_a_load(self):
        claim = ("load", TEXT, MEETINGS, 5)
        reason = ("host", "bob")
        one, other = ((1, 0), (0, 1)), ((0, 1), (1, 0))
        both = ((0, 1), (0, 1))
        rounds = ((one, 3), (other, 1), (both, 1))
        self.assertIs(True, accepts(claim, (rounds, reason)))
        self.assertIs(True, accepts(claim, (((one, 1), (both, 1), (one, 1), (other, 1), (one, 1)), reason)))
        self.assertIs(True, accepts(claim, (rounds, ("tables",))))
        self.assertIs(True, accepts(claim, (rounds, ("host", "ann"))))
        self.assertIs(False, accepts(claim, (rounds, ("guest", "x"))))
        self.assertIs(False, accepts(claim, (rounds, ("guest", "y"))))
        self.assertIs(False, accepts(claim, (rounds, None)))
        self.assertIs(False, accepts(claim, (rounds + ((nothing(SCHOOL), 1),), reason)))
        self.assertIs(False, accepts(claim, (rounds[1:], reason)))
        self.assertIs(False, accepts(("load", TEXT, MEETINGS, 6), (rounds + ((nothing(SCHOOL), 1),), reason)))

    def test_loads_without_meetings(self):
        none = nothing(SCHOOL)
        claim = ("load", TEXT, none, 0)
        for reason in (None, ("host", "ann"), ("guest", "y"), ("tables",)):
            self.assertIs(True, accepts(claim, ((), reason)))
            self.assertIs(False, accepts(("load", TEXT, none, 1), (((none, 1),), reason)))
            self.assertIs(False, accepts(("load", TEXT, none, 1), ((), reason)))
        wide = str(fair_of((1,), (1,)))
        self.assertIs(True, accepts(("load", wide, ((0,),), 0), ((), None)))
        self.assertIs(False, accepts(("load", wide, ((0,),), 0), ((), ("tables",))))

    def test_cuts_that_are_none_where_nothing_is_kept(self):
        wide = str(fair_of((1,), (1,)))
        none = ((0,),)
        claim = ("kept", wide, none, 0, 0)
        for cut in (((), ()), (("a",), ()), ((), ("w",)), (("a",), ("w",))):
            self.assertIs(True, accepts(claim, (none, cut)))
        wrong = (
            None, (), ((),), ((), (), ()), ("a", "w"), (("w",), ()), ((), ("a",)), (("a", "a"), ()), ((), ("w", "w")),
            ([], ()), ((), []), [(), ()], (("b",), ()), ((), ("",)), 0, False, "", ((), None), (None, ()),
        )
        for cut in wrong:
            self.assertIs(False, accepts(claim, (none, cut)))
        for cut in ODD:
            self.assert_judged(claim, (none, cut))

    def test_claims_that_are_too_short_or_too_long(self):
        for claim, certificate in some_papers():
            for size in range(len(claim)):
                self.assertIs(False, accepts(claim[:size], certificate))
            self.assertIs(False, accepts(claim + claim[-1:], certificate))
            self.assertIs(False, accepts(claim + (None,), certificate))

    def test_claims_with_too_few_rounds(self):
        for rounds, first in ((4, 2), (5, 6), (0, 0)):
            claim = ("front", TEXT, MEETINGS, rounds, first, "ann", "x", 0)
            self.assertIs(False, accepts(claim, (nothing(SCHOOL), None)))
            for lot in parts_of(("ann", "bob", "x", "y", "<", ">")):
                self.assertIs(False, accepts(("late", TEXT, MEETINGS, rounds, MEETINGS, first), lot))

    def test_any_values(self):
        papers = list(some_papers())
        for value in ODD:
            for other in ODD:
                self.assertIs(False, accepts(value, other))
            for claim, certificate in papers:
                self.assertIs(False, accepts(value, certificate))
                self.assertIs(False, accepts((value, *claim[1:]), certificate))
                self.assertIs(False, accepts(claim[:1] + (value,) + claim[2:], certificate))
                self.assert_judged(claim, value)
                if claim[0] != "late":
                    self.assert_judged(claim, (value, certificate[1]))
                    self.assert_judged(claim, (certificate[0], value))
                    self.assert_judged(claim, (certificate[0], (value, value)))
                else:
                    self.assertIs(False, accepts(claim, (*certificate, value)))

    def test_words_that_equal_everything(self):
        claim, (plan, _) = certify_load(SCHOOL, MEETINGS)
        for word in (EqualToAll(), Touchy()):
            for reason in ((word,), ("host", word), (word, "ann"), word, ("guest", word)):
                self.assertIs(False, accepts(claim, (plan, reason)))
        for lot in ((EqualToAll(),), ("x", EqualToAll()), (Touchy(), "x")):
            self.assertIs(False, accepts(("late", TEXT, MEETINGS, 9, MEETINGS, 2), lot))
            self.assertIs(False, accepts(("kept", TEXT, MEETINGS, 9, 10), (MEETINGS, (lot, ()))))

    def test_great_numbers(self):
        for number in (10 ** 30, MOST + 1, GREAT, 10 ** 80 - 1):
            for claim in (
                ("load", TEXT, MEETINGS, number), ("kept", TEXT, MEETINGS, number, number),
                ("front", TEXT, MEETINGS, number, number, "ann", "x", number),
                ("late", TEXT, MEETINGS, number, MEETINGS, number),
            ):
                self.assertIsNotNone(claim_fair(claim))
                for certificate in ((), (MEETINGS, None), (((MEETINGS, number),), ("tables",)), ("<", ">"), ((), None)):
                    self.assert_judged(claim, certificate)
            self.assertIs(True, accepts(("kept", TEXT, MEETINGS, number, 10), (MEETINGS, (("ann", "bob"), ()))))
            self.assertIs(True, accepts(("front", TEXT, MEETINGS, number, number, "ann", "x", 3), (MEETINGS, None)))
            wrong = ((number, 0), (0, 0))
            self.assertIs(False, accepts(("late", TEXT, wrong, number, wrong, 1), ()))

    def test_by_name_and_where_it_is_defined(self):
        claim, certificate = certify_load(SCHOOL, MEETINGS)
        self.assertIs(True, accepts(certificate=certificate, claim=claim))
        self.assertEqual("meetrounds.checker", checker.accepts.__module__)


if __name__ == "__main__":
    unittest.main()
