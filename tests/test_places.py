"""Tables with bounds for their lines, promise [15], against all lots of places."""

import random
import unittest

from meetrounds.places import nearest, some_lines
from meetrounds.tables import table_of
from plain import all_lines, is_possible, keeps_within, range_by_lots, tables_within


def names_of_lines(hosts, guests):
    """The names of the lines in the order in which the package has them."""
    numbers = [(row, column) for row in range(hosts) for column in range(guests)]
    rows = [("row", row) for row in range(hosts)]
    return rows + numbers + [("column", column) for column in range(guests)] + ["sum"]


def any_bounds(source, hosts, guests, scale):
    """Any bounds of all lines, under their names, the least ones not above the greatest ones."""
    bounds = {}
    for name in names_of_lines(hosts, guests):
        share = 1 if isinstance(name, tuple) and isinstance(name[0], int) else 2
        low = source.choice((0, 0, source.randrange(3 * share)))
        bounds[name] = (low * scale, (low + source.randrange(3 * share)) * scale + source.randrange(scale))
    return bounds


class PlacesTest(unittest.TestCase):
    def assert_found(self, hosts, guests, bounds):
        """There is a table just if no lot is closed off, and each line goes as far as the lots let it."""
        plain = list(bounds.values())
        lines = some_lines(hosts, guests, plain)
        self.assertEqual(list(bounds.values()), plain)
        self.assertEqual(is_possible(hosts, guests, bounds), lines is not None)
        if lines is None:
            return False
        table = table_of(lines, hosts, guests)
        self.assertEqual([all_lines(table)[name] for name in bounds], lines)
        self.assertTrue(keeps_within(table, bounds))
        at = (hosts + guests) % len(bounds)
        name = list(bounds)[at]
        ends = tuple(nearest(hosts, guests, plain, at, goal) for goal in bounds[name])
        self.assertEqual(range_by_lots(hosts, guests, bounds, name), ends)
        return True

    def test_tables_of_any_size_with_small_and_great_bounds(self):
        source = random.Random(15)
        found = []
        for scale in (1, 10 ** 30):
            for _ in range(150):
                hosts, guests = source.randrange(1, 5), source.randrange(1, 4)
                found.append(self.assert_found(hosts, guests, any_bounds(source, hosts, guests, scale)))
        self.assertTrue(30 < sum(found) < 270, sum(found))

    def test_each_line_of_small_tables_against_all_tables(self):
        source = random.Random(151)
        tables = tables_within(((3, 3), (3, 3)))
        for _ in range(60):
            bounds = any_bounds(source, 2, 2, 1)
            for name in ((0, 0), (0, 1), (1, 0), (1, 1)):
                bounds[name] = (min(3, bounds[name][0]), min(3, bounds[name][1]))
            fitting = [table for table in tables if keeps_within(table, bounds)]
            lines = some_lines(2, 2, list(bounds.values()))
            self.assertEqual(bool(fitting), lines is not None)
            for at, name in enumerate(bounds if fitting else ()):
                numbers = [all_lines(table)[name] for table in fitting]
                for goal in range(bounds[name][0], bounds[name][1] + 1):
                    told = nearest(2, 2, list(bounds.values()), at, goal)
                    self.assertEqual(min(numbers, key=lambda number: abs(number - goal)), told)


if __name__ == "__main__":
    unittest.main()
