"""Bounds for the lines of tables of a fair, pairs of the least and the greatest number, and the tables within them."""

from meetrounds.places import nearest, some_lines
from meetrounds.tables import limits_of, line_at, lines_of, table_fault, table_of


def bounds_by_time(fair, meetings, rounds, first):
    """The bounds for the lines of the tables that so many of so many rounds can have."""
    bounds = []
    for line, limit in zip(lines_of(meetings), limits_of(fair)):
        if limit is None:
            bounds.append((0, line))
        else:
            bounds.append((max(0, line - (rounds - first) * limit), first * limit))
    return bounds


def urgent_bounds(fair, meetings, rounds, first, urgent):
    """The bounds by time with the urgent numbers as the least ones."""
    bounds = bounds_by_time(fair, meetings, rounds, first)
    hosts, guests = len(fair.hosts), len(fair.guests)
    for row, numbers in enumerate(urgent):
        for column, least in enumerate(numbers):
            at = line_at(hosts, guests, row, column)
            bounds[at] = (least, bounds[at][1])
    return bounds


def kept_bounds(fair, meetings, rounds):
    """The bounds for the lines of the tables that can be kept in so many rounds."""
    bounds = []
    for line, limit in zip(lines_of(meetings), limits_of(fair)):
        bounds.append((0, line if limit is None else rounds * limit))
    return bounds


def line_of_pair(fair, host, guest):
    """Where the number of this host and this guest stands among the lines."""
    hosts = len(fair.hosts)
    return line_at(hosts, len(fair.guests), fair.names.index(host), fair.names.index(guest) - hosts)


def is_between(fair, bounds, value):
    """Whether any value is a table of the fair's size within the bounds."""
    if table_fault(value, len(fair.hosts), len(fair.guests)):
        return False
    return all([least <= line <= greatest for line, (least, greatest) in zip(lines_of(value), bounds)])


def some_table(fair, bounds):
    """Any table within the bounds; None if there is none."""
    hosts, guests = len(fair.hosts), len(fair.guests)
    lines = some_lines(hosts, guests, bounds)
    if lines is None:
        return None
    return table_of(lines, hosts, guests)


def most_of_line(fair, bounds, at):
    """The most that this line has in tables within the bounds, of which there must be some."""
    return nearest(len(fair.hosts), len(fair.guests), bounds, at, bounds[at][1])


def range_of_pair(fair, bounds, host, guest):
    """The least and the most that these two meet in tables within the bounds, of which there must be some."""
    at = line_of_pair(fair, host, guest)
    least = nearest(len(fair.hosts), len(fair.guests), bounds, at, bounds[at][0])
    return least, most_of_line(fair, bounds, at)


def places_of(fair):
    """The places of the fair in the order in which they are counted."""
    return ("<",) + fair.names + (">",)
