"""Certificates for the checker, promise [16] and the interface of meetrounds.certificates."""

import unittest

from claims import is_shown, is_true
from meetrounds import certificates
from meetrounds.certificates import certify_front, certify_kept, certify_late, certify_load
from meetrounds.checker import accepts
from meetrounds.errors import InvalidNumber, TooFewRounds
from meetrounds.fairs import Fair
from meetrounds.front import front_range
from meetrounds.kept import kept
from meetrounds.loads import load
from meetrounds.urgent import first_rounds
from odd import GREAT
from plain import (
    MOST, SCHOOL, WIDE, any_first, any_rounds, any_within, fair_of, great_cases, load_of, nothing, pairs_of,
    small_cases, sum_of, tables_within,
)
from wrong import MEETINGS, WRONG_NUMBERS, WrongCase

LOAD = {"fair": SCHOOL, "meetings": MEETINGS}
KEPT = {**LOAD, "rounds": 3}
FRONT = {**LOAD, "rounds": 6, "first": 2, "host": "ann", "guest": "x"}
LATE = {**LOAD, "rounds": 6, "urgent": ((3, 0), (1, 0))}


class CertificatesTest(WrongCase):
    def assert_certified(self, claim, told):
        """The claim is this one, and the certificate is one for it."""
        self.assertEqual((tuple, 2), (type(told), len(told)))
        self.assertEqual(claim, told[0])
        self.assertTrue(is_shown(*told))
        self.assertIs(True, accepts(*told))
        self.assertIs(True, accepts(certificate=told[1], claim=told[0]))

    def assert_load(self, fair, meetings):
        claim = ("load", str(fair), meetings, load(fair, meetings))
        self.assert_certified(claim, certify_load(fair, meetings))

    def assert_kept(self, fair, meetings, rounds):
        claim = ("kept", str(fair), meetings, rounds, kept(fair, meetings, rounds))
        self.assert_certified(claim, certify_kept(fair, meetings, rounds))

    def assert_front(self, fair, meetings, rounds, first, host, guest):
        most = front_range(fair, meetings, rounds, first, host, guest)[1]
        claim = ("front", str(fair), meetings, rounds, first, host, guest, most)
        self.assert_certified(claim, certify_front(fair, meetings, rounds, first, host, guest))

    def assert_late(self, fair, meetings, rounds, urgent):
        late = first_rounds(fair, meetings, rounds, urgent) - 1
        told = certify_late(fair, meetings, rounds, urgent)
        if late < 0:
            self.assertIsNone(told)
        else:
            self.assert_certified(("late", str(fair), meetings, rounds, urgent, late), told)

    def test_the_examples_of_the_document(self):
        claim, paper = certify_load(SCHOOL, ((3, 2), (1, 4)))
        told = [claim[0], claim[2:], accepts(claim, paper), accepts(claim, ())]
        self.assertEqual(["load", (((3, 2), (1, 4)), 5), True, False], told)
        self.assertEqual((((3, 2), (1, 4)), 3, 6), certify_kept(SCHOOL, ((3, 2), (1, 4)), 3)[0][2:])
        claim, paper = certify_late(SCHOOL, ((3, 2), (1, 4)), 5, ((3, 0), (1, 0)))
        self.assertEqual([3, True], [claim[5], accepts(claim, paper)])
        claim = ("kept", str(SCHOOL), ((3, 2), (1, 4)), 3, 6)
        self.assertIs(True, accepts(claim, (((3, 0), (0, 3)), None)))

    def test_small_meetings(self):
        for at, (fair, meetings) in enumerate(small_cases()):
            self.assert_load(fair, meetings)
            size = load_of(fair, meetings)
            for rounds in range(size + 2):
                self.assert_kept(fair, meetings, rounds)
            for rounds in (size, size + 2):
                for _, _, host, guest in pairs_of(fair):
                    for first in range(rounds + 1):
                        self.assert_front(fair, meetings, rounds, first, host, guest)
                for urgent in tables_within(meetings)[at % 4::4] + [meetings]:
                    self.assert_late(fair, meetings, rounds, urgent)

    def test_great_meetings(self):
        seen = {"lots": 0, "late": 0, "cuts": 0, "tables": 0, "all": 0}
        for fair, meetings, source in great_cases(150, 91):
            rounds = any_rounds(source, load_of(fair, meetings))
            first = any_first(source, rounds)
            _, _, host, guest = source.choice(list(pairs_of(fair)))
            urgent = any_within(source, meetings)
            few = source.randrange(load_of(fair, meetings) + 1)
            with self.subTest(fair=str(fair), meetings=meetings, rounds=rounds, first=first, urgent=urgent, few=few):
                self.assert_load(fair, meetings)
                self.assert_kept(fair, meetings, few)
                self.assert_kept(fair, meetings, rounds)
                self.assert_front(fair, meetings, rounds, first, host, guest)
                self.assert_late(fair, meetings, rounds, urgent)
            seen["lots"] += certify_front(fair, meetings, rounds, first, host, guest)[1][1] is not None
            seen["late"] += certify_late(fair, meetings, rounds, urgent) is not None
            cut = certify_kept(fair, meetings, few)[1][1]
            seen["tables"] += cut is None
            seen["cuts"] += cut is not None and 0 < len(cut[0]) + len(cut[1]) < len(fair.names)
            seen["all"] += certify_front(fair, meetings, rounds, rounds, host, guest)[1][1] is None
        self.assertGreater(min(seen.values()), 15, seen)

    def test_what_is_certified_is_true(self):
        for fair, meetings, source in great_cases(25, 92):
            rounds = any_rounds(source, load_of(fair, meetings))
            first = any_first(source, rounds)
            _, _, host, guest = source.choice(list(pairs_of(fair)))
            self.assertTrue(is_true(certify_load(fair, meetings)[0]))
            self.assertTrue(is_true(certify_kept(fair, meetings, rounds // 2)[0]))
            self.assertTrue(is_true(certify_front(fair, meetings, rounds, first, host, guest)[0]))
            late = certify_late(fair, meetings, rounds, any_within(source, meetings))
            self.assertTrue(late is None or is_true(late[0]))

    def test_no_meetings(self):
        for fair in (SCHOOL, WIDE, fair_of((4,), (4,), 1), fair_of((1,) * 4, (1,) * 4, 12)):
            none = nothing(fair)
            self.assertEqual((("load", str(fair), none, 0), ((), None)), certify_load(fair, none))
            for rounds in (0, 1, GREAT):
                self.assert_kept(fair, none, rounds)
                for first in {0, rounds // 2, rounds}:
                    self.assert_front(fair, none, rounds, first, fair.hosts[0][0], fair.guests[0][0])
                self.assertIsNone(certify_late(fair, none, rounds, none))

    def test_one_host_and_one_guest_at_the_edges(self):
        for bound in (1, 4):
            for tables in (None, 1, 12):
                fair = fair_of((bound,), (4,), tables)
                for many in (1, 3, 4, MOST - 1, MOST):
                    size = load_of(fair, ((many,),))
                    self.assert_load(fair, ((many,),))
                    for rounds in {0, 1, size // 2, size - 1, size, GREAT}:
                        self.assert_kept(fair, ((many,),), rounds)
                    for rounds in (size, size + 1, GREAT):
                        for first in {0, 1, size - 1, size, rounds}:
                            self.assert_front(fair, ((many,),), rounds, first, "a", "w")
                        for urgent in {0, 1, many // 2, many}:
                            self.assert_late(fair, ((many,),), rounds, ((urgent,),))

    def test_nothing_urgent_and_all_of_it(self):
        for fair, meetings, _ in great_cases(30, 93):
            for rounds in (load_of(fair, meetings), load_of(fair, meetings) + 3):
                self.assertIsNone(certify_late(fair, meetings, rounds, nothing(fair)))
                if sum_of(meetings):
                    self.assertEqual(load_of(fair, meetings) - 1, certify_late(fair, meetings, rounds, meetings)[0][5])


class CertificatesErrorsTest(WrongCase):
    def test_wrong_arguments(self):
        for call, right in ((certify_load, LOAD), (certify_kept, KEPT), (certify_front, FRONT), (certify_late, LATE)):
            self.assert_all(call, right)
            self.assert_order(call, right)
        self.assert_given(InvalidNumber, "first", WRONG_NUMBERS + (7, 8, GREAT), certify_front, FRONT)

    def test_fewer_rounds_than_the_load(self):
        self.assert_too_few(certify_front, FRONT)
        self.assert_too_few(certify_late, LATE)
        self.assert_error(TooFewRounds, 5, certify_late, SCHOOL, MEETINGS, 4, ((0, 0), (0, 0)))
        for rounds in range(5):
            self.assertEqual(2 * rounds, certify_kept(SCHOOL, MEETINGS, rounds)[0][4])

    def test_arguments_by_position_and_by_name(self):
        again = {"fair": Fair.read(str(SCHOOL)), "meetings": ((3, 2), (1, 4))}
        for call, right in ((certify_load, LOAD), (certify_kept, KEPT), (certify_front, FRONT), (certify_late, LATE)):
            told = call(*right.values())
            self.assertEqual(told, call(**dict(reversed(right.items()))))
            self.assertEqual(told, call(**{**right, **again}))
            self.assertEqual("meetrounds.certificates", getattr(certificates, call.__name__).__module__)


if __name__ == "__main__":
    unittest.main()
