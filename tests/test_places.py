"""Tables with bounds for their lines, promise [15], against all lots of places."""

import random
import unittest

from meetrounds.places import closed_lot, crossing, holding_lot, nearest, some_lines
from meetrounds.tables import table_of
from plain import all_lines, all_lots, in_and_out, is_possible, keeps_within, range_by_lots, tables_within, way_of


def names_of_lines(hosts, guests):
    """The names of the lines in the order in which the package has them."""
    numbers = [(row, column) for row in range(hosts) for column in range(guests)]
    rows = [("row", row) for row in range(hosts)]
    return rows + numbers + [("column", column) for column in range(guests)] + ["sum"]


def any_bounds(source, hosts, guests, scale):
    """Any bounds of all lines, under their names, the least ones not above the greatest ones."""
    bounds = {}
    for name in names_of_lines(hosts, guests):
        share = 1 if isinstance(name, tuple) and isinstance(name[0], int) else 2
        low = source.choice((0, 0, source.randrange(3 * share)))
        bounds[name] = (low * scale, (low + source.randrange(3 * share)) * scale + source.randrange(scale))
    return bounds


def places_in_order(hosts, guests):
    """The places in the order in which the package counts them."""
    return ["<"] + [("host", at) for at in range(hosts)] + [("guest", at) for at in range(guests)] + [">"]


class PlacesTest(unittest.TestCase):
    def assert_closed(self, hosts, guests, bounds):
        """There is a lot that is closed off just if there is no table."""
        plain = list(bounds.values())
        told = closed_lot(hosts, guests, plain)
        self.assertEqual(list(bounds.values()), plain)
        if told is None:
            self.assertTrue(is_possible(hosts, guests, bounds))
            return
        self.assertEqual(len(set(told)), len(told))
        places = places_in_order(hosts, guests)
        into, out = in_and_out(bounds, {places[number] for number in told})
        self.assertGreater(into, out)
        self.assertEqual((into, out), crossing(hosts, guests, plain, told))

    def assert_held(self, hosts, guests, bounds, at):
        """The lot holds the line to the most that it can be, if its own greatest bound doesn't."""
        plain = list(bounds.values())
        name = list(bounds)[at]
        told = holding_lot(hosts, guests, plain, at)
        most = range_by_lots(hosts, guests, bounds, name)[1]
        if not told:
            self.assertEqual(bounds[name][1], most)
            return False
        places = places_in_order(hosts, guests)
        lot = {places[number] for number in told}
        begin, end = way_of(name)
        self.assertEqual((len(told), True, False), (len(lot), end in lot, begin in lot))
        into, out = in_and_out({other: bounds[other] for other in bounds if other != name}, lot)
        self.assertEqual(most, out - into)
        return True

    def assert_found(self, hosts, guests, bounds):
        """There is a table just if no lot is closed off, and each line goes as far as the lots let it."""
        plain = list(bounds.values())
        lines = some_lines(hosts, guests, plain)
        self.assertEqual(list(bounds.values()), plain)
        self.assertEqual(is_possible(hosts, guests, bounds), lines is not None)
        if lines is None:
            return False
        table = table_of(lines, hosts, guests)
        self.assertEqual([all_lines(table)[name] for name in bounds], lines)
        self.assertTrue(keeps_within(table, bounds))
        at = (hosts + guests) % len(bounds)
        name = list(bounds)[at]
        ends = tuple(nearest(hosts, guests, plain, at, goal) for goal in bounds[name])
        self.assertEqual(range_by_lots(hosts, guests, bounds, name), ends)
        return True

    def test_tables_of_any_size_with_small_and_great_bounds(self):
        source = random.Random(15)
        found = []
        for scale in (1, 10 ** 30):
            for _ in range(150):
                hosts, guests = source.randrange(1, 5), source.randrange(1, 4)
                found.append(self.assert_found(hosts, guests, any_bounds(source, hosts, guests, scale)))
        self.assertTrue(30 < sum(found) < 270, sum(found))

    def test_lots_that_are_closed_off_and_lots_that_hold_a_line(self):
        source = random.Random(152)
        held = []
        for scale in (1, 10 ** 30):
            for _ in range(150):
                hosts, guests = source.randrange(1, 5), source.randrange(1, 4)
                bounds = any_bounds(source, hosts, guests, scale)
                self.assert_closed(hosts, guests, bounds)
                if is_possible(hosts, guests, bounds):
                    held.append(self.assert_held(hosts, guests, bounds, source.randrange(len(bounds))))
        self.assertTrue(20 < sum(held) < len(held) - 20, held)

    def test_what_crosses_the_edge_of_each_lot(self):
        source = random.Random(153)
        for hosts, guests in ((1, 1), (2, 1), (1, 3), (2, 3)):
            bounds = any_bounds(source, hosts, guests, 7)
            places = places_in_order(hosts, guests)
            for lot in all_lots(hosts, guests):
                numbers = [places.index(place) for place in lot]
                self.assertEqual(in_and_out(bounds, lot), crossing(hosts, guests, list(bounds.values()), numbers))

    def test_each_line_of_small_tables_against_all_tables(self):
        source = random.Random(151)
        tables = tables_within(((3, 3), (3, 3)))
        for _ in range(60):
            bounds = any_bounds(source, 2, 2, 1)
            for name in ((0, 0), (0, 1), (1, 0), (1, 1)):
                bounds[name] = (min(3, bounds[name][0]), min(3, bounds[name][1]))
            fitting = [table for table in tables if keeps_within(table, bounds)]
            lines = some_lines(2, 2, list(bounds.values()))
            self.assertEqual(bool(fitting), lines is not None)
            for at, name in enumerate(bounds if fitting else ()):
                numbers = [all_lines(table)[name] for table in fitting]
                for goal in range(bounds[name][0], bounds[name][1] + 1):
                    told = nearest(2, 2, list(bounds.values()), at, goal)
                    self.assertEqual(min(numbers, key=lambda number: abs(number - goal)), told)


if __name__ == "__main__":
    unittest.main()
