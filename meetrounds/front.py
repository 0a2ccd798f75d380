"""First rounds: which tables they can have."""

from meetrounds.arguments import check_first, check_number, check_pair, check_planned
from meetrounds.loads import check_enough
from meetrounds.places import nearest, some_lines
from meetrounds.tables import limits_of, line_at, lines_of, table_fault, table_of


def bounds_by_time(fair, meetings, rounds, first):
    """The bounds for the lines of the tables that so many of so many rounds can have."""
    bounds = []
    for line, limit in zip(lines_of(meetings), limits_of(fair)):
        if limit is None:
            bounds.append((0, line))
        else:
            bounds.append((max(0, line - (rounds - first) * limit), first * limit))
    return bounds


def _line_of_pair(fair, host, guest):
    """Where the number of this host and this guest stands among the lines."""
    hosts = len(fair.hosts)
    return line_at(hosts, len(fair.guests), fair.names.index(host), fair.names.index(guest) - hosts)


def is_front(fair, meetings, rounds, first, value):
    """Whether any value is a table that so many first rounds can have in a schedule of so many rounds."""
    check_planned(fair, meetings, rounds)
    check_first(rounds, first)
    check_enough(fair, meetings, rounds)
    if table_fault(value, len(fair.hosts), len(fair.guests)):
        return False
    bounds = bounds_by_time(fair, meetings, rounds, first)
    return all([least <= line <= greatest for line, (least, greatest) in zip(lines_of(value), bounds)])


def front_range(fair, meetings, rounds, first, host, guest):
    """How often this host and this guest can meet in so many first rounds, at least and at most."""
    check_planned(fair, meetings, rounds)
    check_first(rounds, first)
    check_pair(fair, host, guest)
    check_enough(fair, meetings, rounds)
    hosts, guests = len(fair.hosts), len(fair.guests)
    bounds = bounds_by_time(fair, meetings, rounds, first)
    at = _line_of_pair(fair, host, guest)
    least, greatest = bounds[at]
    return nearest(hosts, guests, bounds, at, least), nearest(hosts, guests, bounds, at, greatest)


def some_front(fair, meetings, rounds, first, host, guest, many):
    """A table that so many first rounds can have, in which this host and this guest meet so often; None if none is."""
    check_planned(fair, meetings, rounds)
    check_first(rounds, first)
    check_pair(fair, host, guest)
    check_number(many)
    check_enough(fair, meetings, rounds)
    hosts, guests = len(fair.hosts), len(fair.guests)
    bounds = bounds_by_time(fair, meetings, rounds, first)
    at = _line_of_pair(fair, host, guest)
    if many > bounds[at][1]:
        return None
    bounds[at] = (many, many)
    lines = some_lines(hosts, guests, bounds)
    if lines is None:
        return None
    return table_of(lines, hosts, guests)
