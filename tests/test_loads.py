"""The load, what binds and the tables needed: promise [9] and the interface of meetrounds.loads."""

import unittest

from meetrounds import loads
from meetrounds.fairs import Fair
from meetrounds.loads import binding, load, tables_needed
from odd import GREAT
from plain import (
    MOST, SCHOOL, WIDE, Search, columns_of, fair_of, great_cases, load_of, nothing, rows_of, small_cases, sum_of,
)
from wrong import MEETINGS, WrongCase

RIGHT = {"fair": SCHOOL, "meetings": MEETINGS}
RIGHT_NEEDED = {**RIGHT, "rounds": 5}


def binding_all(fair, meetings):
    """All that bind, by the words of promise [9]."""
    needs = {("host", name): -(-many // bound) for (name, bound), many in zip(fair.hosts, rows_of(meetings))}
    for (name, bound), many in zip(fair.guests, columns_of(meetings)):
        needs[("guest", name)] = -(-many // bound)
    if fair.tables is not None:
        needs[("tables",)] = -(-sum_of(meetings) // fair.tables)
    return [reason for reason, need in needs.items() if need == load_of(fair, meetings)]


class LoadTest(WrongCase):
    def test_the_examples_of_the_document(self):
        self.assertEqual(5, load(SCHOOL, ((3, 2), (1, 4))))
        self.assertEqual(("host", "ann"), binding(SCHOOL, ((2, 2), (0, 1))))
        self.assertEqual(5, load(SCHOOL, ((2, 0), (3, 0))))
        self.assertEqual(0, load(SCHOOL, ((0, 0), (0, 0))))
        self.assertEqual(10 ** 30, load(Fair((("a", 4),), (("b", 4),), 1), ((10 ** 30,),)))

    def test_the_load_against_a_search_through_all_rounds(self):
        for fair, meetings in small_cases():
            with self.subTest(fair=str(fair), meetings=meetings):
                self.assertEqual(Search(fair, meetings).load(), load(fair, meetings))

    def test_the_load_of_great_meetings(self):
        for fair, meetings, _ in great_cases(300, 1):
            with self.subTest(fair=str(fair), meetings=meetings):
                self.assertEqual(load_of(fair, meetings), load(fair, meetings))
                self.assertIs(int, type(load(fair, meetings)))

    def test_what_binds(self):
        for fair, meetings in [*small_cases(), *[case[:2] for case in great_cases(300, 2)]]:
            with self.subTest(fair=str(fair), meetings=meetings):
                if sum_of(meetings) == 0:
                    self.assertIsNone(binding(fair, meetings))
                else:
                    self.assertIn(binding(fair, meetings), binding_all(fair, meetings))

    def test_each_kind_of_reason(self):
        fair = fair_of((1, 2), (3, 4), 5)
        self.assertEqual(("host", "a"), binding(fair, ((3, 3), (0, 0))))
        self.assertEqual(("host", "b"), binding(fair, ((0, 0), (5, 5))))
        self.assertEqual(("guest", "w"), binding(fair_of((4, 4), (3, 4)), ((4, 0), (4, 0))))
        self.assertEqual(("guest", "x"), binding(fair_of((4, 4), (4, 1), 12), ((0, 1), (0, 1))))
        self.assertEqual(("tables",), binding(fair_of((4, 4), (4, 4), 5), ((2, 1), (1, 2))))
        self.assertIn(binding(WIDE, ((0, 2), (0, 2))), (("host", "ann"), ("host", "bob"), ("guest", "y")))

    def test_names_like_the_words_of_reasons(self):
        fair = Fair((("tables", 1), ("host", 4)), (("guest", 4),), 12)
        self.assertEqual(("host", "tables"), binding(fair, ((3,), (1,))))
        self.assertEqual(("guest", "guest"), binding(fair, ((1,), (4,))))

    def test_bounds_and_tables_at_their_edges(self):
        for bound in (1, 4):
            for many in (0, 1, 3, 4, 5, MOST - 1, MOST):
                for tables in (None, 1, 12):
                    need = -(-many // min(bound, tables or 4))
                    self.assertEqual(need, load(fair_of((bound,), (4,), tables), ((many,),)))
                    self.assertEqual(need, load(fair_of((4,), (bound,), tables), ((many,),)))
        greatest = ((MOST,) * 4,) * 4
        self.assertEqual(16 * MOST, load(fair_of((4,) * 4, (4,) * 4, 1), greatest))
        self.assertEqual(-(-16 * MOST // 12), load(fair_of((4,) * 4, (4,) * 4, 12), greatest))
        self.assertEqual(MOST, load(fair_of((4,) * 4, (4,) * 4), greatest))
        self.assertEqual(4 * MOST, load(fair_of((4,) * 4, (4, 4, 4, 1)), greatest))

    def test_arguments_by_position_and_by_name(self):
        for call, told in ((load, 5), (binding, ("host", "ann"))):
            self.assertEqual(told, call(SCHOOL, MEETINGS))
            self.assertEqual(told, call(SCHOOL, meetings=MEETINGS))
            self.assertEqual(told, call(meetings=((3, 2), (1, 4)), fair=Fair.read(str(SCHOOL))))
        self.assertEqual(2, tables_needed(SCHOOL, MEETINGS, 5))
        self.assertEqual(2, tables_needed(rounds=5, meetings=MEETINGS, fair=SCHOOL))

    def test_wrong_arguments(self):
        self.assert_all(load, RIGHT)
        self.assert_all(binding, RIGHT)
        self.assert_all(tables_needed, RIGHT_NEEDED)

    def test_the_order_of_errors(self):
        self.assert_order(load, RIGHT)
        self.assert_order(binding, RIGHT)
        self.assert_order(tables_needed, RIGHT_NEEDED)

    def test_the_interface_is_defined_in_its_file(self):
        for name in ("load", "binding", "tables_needed"):
            self.assertEqual("meetrounds.loads", getattr(loads, name).__module__)


class TablesNeededTest(unittest.TestCase):
    def test_the_examples_of_the_document(self):
        for rounds, told in ((5, 2), (9, 2), (4, None)):
            self.assertEqual(told, tables_needed(SCHOOL, ((3, 2), (1, 4)), rounds))

    def test_so_many_are_enough_and_fewer_are_not(self):
        for fair, meetings, source in great_cases(300, 3):
            wide = Fair(fair.hosts, fair.guests)
            least = load_of(wide, meetings)
            for rounds in (least, least + 1, 2 * least + 1, source.randrange(2 * least + 2), GREAT):
                told = tables_needed(fair, meetings, rounds)
                with self.subTest(fair=str(fair), meetings=meetings, rounds=rounds):
                    if sum_of(meetings) == 0:
                        self.assertEqual(0, told)
                    elif rounds < least:
                        self.assertIsNone(told)
                    else:
                        self.assertTrue((told - 1) * rounds < sum_of(meetings) <= told * rounds)

    def test_against_the_loads_with_all_tables(self):
        for fair, meetings in small_cases():
            for rounds in range(7):
                told = tables_needed(fair, meetings, rounds)
                enough = [
                    tables for tables in range(1, 13)
                    if load_of(Fair(fair.hosts, fair.guests, tables), meetings) <= rounds
                ]
                with self.subTest(fair=str(fair), meetings=meetings, rounds=rounds):
                    if sum_of(meetings) == 0:
                        self.assertEqual(0, told)
                    else:
                        self.assertEqual(min(enough, default=None), told)

    def test_the_tables_of_the_fair_do_not_matter(self):
        for tables in (None, 1, 2, 12):
            fair = fair_of((4,) * 4, (4,) * 4, tables)
            self.assertEqual(16, tables_needed(fair, ((MOST,) * 4,) * 4, MOST))
            self.assertEqual(16, tables_needed(fair, ((MOST,) * 4,) * 4, MOST + 10 ** 28))
            self.assertEqual(1, tables_needed(fair, ((MOST,) * 4,) * 4, 16 * MOST))
            self.assertEqual(2, tables_needed(fair, ((MOST,) * 4,) * 4, 16 * MOST - 1))
            self.assertIsNone(tables_needed(fair, ((MOST,) * 4,) * 4, MOST - 1))

    def test_nothing_to_meet(self):
        for rounds in (0, 1, GREAT):
            for fair in (SCHOOL, WIDE, fair_of((1,), (1,), 1)):
                told = tables_needed(fair, nothing(fair), rounds)
                self.assertEqual(0, told)
                self.assertIs(int, type(told))

    def test_no_rounds(self):
        self.assertIsNone(tables_needed(SCHOOL, ((0, 0), (1, 0)), 0))
        self.assertEqual(1, tables_needed(SCHOOL, ((0, 0), (1, 0)), 1))


if __name__ == "__main__":
    unittest.main()
