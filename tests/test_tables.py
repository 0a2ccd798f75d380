"""What a table is and what its lines are, promise [7], and the least integer above a fraction, promise [3]."""

import itertools
import unittest

from meetrounds.tables import (
    ceiling, difference, is_within, limits_of, line_at, lines_of, repeated, sum_of, table_fault, table_of,
)
from odd import GREAT, ODD
from plain import MOST, SCHOOL, WIDE, fair_of, is_inside, plus, tables_within
from wrong import wrong_tables

WIDE_TABLE = ((1, 2, 4), (8, 16, 32))


class TablesTest(unittest.TestCase):
    def test_tables_of_each_size(self):
        for hosts, guests in itertools.product(range(1, 5), repeat=2):
            for number in (0, 1, MOST):
                table = ((number,) * guests,) * hosts
                for rows, columns in itertools.product(range(1, 5), repeat=2):
                    fault = () if rows == hosts else (None,)
                    if rows == hosts and columns != guests:
                        fault = (0,)
                    self.assertEqual(fault, table_fault(table, rows, columns, MOST))

    def test_the_greatest_number(self):
        self.assertEqual((), table_fault(((MOST,), (0,)), 2, 1, MOST))
        self.assertEqual((1,), table_fault(((MOST,), (MOST + 1,)), 2, 1, MOST))
        self.assertEqual((), table_fault(((MOST,), (GREAT ** 2,)), 2, 1))
        self.assertEqual((0,), table_fault(((-1,), (-1,)), 2, 1))

    def test_values_that_are_no_tables(self):
        for value, index in wrong_tables():
            self.assertEqual((index,), table_fault(value, 2, 2, MOST))
        for value in ODD:
            self.assertNotEqual((), table_fault(value, 1, 2))

    def test_lines(self):
        self.assertEqual([7, 56, 1, 2, 4, 8, 16, 32, 9, 18, 36, 63], lines_of(WIDE_TABLE))
        self.assertEqual([5, 5, 5, 5], lines_of(((5,),)))
        self.assertEqual(63, sum_of(WIDE_TABLE))
        self.assertEqual(WIDE_TABLE, table_of(lines_of(WIDE_TABLE), 2, 3))
        self.assertEqual(((1,), (2,), (4,)), table_of(lines_of(((1,), (2,), (4,))), 3, 1))
        for row, column in itertools.product(range(2), range(3)):
            self.assertEqual(WIDE_TABLE[row][column], lines_of(WIDE_TABLE)[line_at(2, 3, row, column)])

    def test_parts_and_sums_of_tables(self):
        tables = tables_within(((1, 1), (0, 2)))
        for one, other in itertools.product(tables, repeat=2):
            self.assertIs(is_inside(one, other), is_within(one, other))
            self.assertEqual(one, difference(plus(one, other), other))
            self.assertEqual(plus(one, plus(one, one)), repeated(one, 3))
        self.assertEqual(((GREAT, 0, 2 * GREAT),), repeated(((1, 0, 2),), GREAT))

    def test_limits(self):
        self.assertEqual([1, 1, None, None, None, None, 1, 2, 2], limits_of(SCHOOL))
        self.assertEqual([1, 1, None, None, None, None, 1, 2, None], limits_of(WIDE))
        self.assertEqual([3, None, None, 4, 2, 12], limits_of(fair_of((3,), (4, 2), 12)))

    def test_ceilings(self):
        for by in (1, 2, 3, 4, 12):
            for number in range(50):
                least = ceiling(number, by)
                self.assertTrue((least - 1) * by < number <= least * by)
        self.assertEqual(10 ** 29 + 1, ceiling(MOST + 1, 10))
        self.assertEqual(10 ** 29, ceiling(MOST, 10))


if __name__ == "__main__":
    unittest.main()
