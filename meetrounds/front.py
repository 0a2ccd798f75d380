"""First rounds: which tables they can have."""

from meetrounds.arguments import check_first, check_number, check_pair, check_planned
from meetrounds.bounds import bounds_by_time, is_between, line_of_pair, range_of_pair, some_table
from meetrounds.loads import check_enough


def is_front(fair, meetings, rounds, first, value):
    """Whether any value is a table that so many first rounds can have in a schedule of so many rounds."""
    check_planned(fair, meetings, rounds)
    check_first(rounds, first)
    check_enough(fair, meetings, rounds)
    return is_between(fair, bounds_by_time(fair, meetings, rounds, first), value)


def front_range(fair, meetings, rounds, first, host, guest):
    """How often this host and this guest can meet in so many first rounds, at least and at most."""
    check_planned(fair, meetings, rounds)
    check_first(rounds, first)
    check_pair(fair, host, guest)
    check_enough(fair, meetings, rounds)
    return range_of_pair(fair, bounds_by_time(fair, meetings, rounds, first), host, guest)


def some_front(fair, meetings, rounds, first, host, guest, many):
    """A table that so many first rounds can have, in which this host and this guest meet so often; None if none is."""
    check_planned(fair, meetings, rounds)
    check_first(rounds, first)
    check_pair(fair, host, guest)
    check_number(many)
    check_enough(fair, meetings, rounds)
    bounds = bounds_by_time(fair, meetings, rounds, first)
    at = line_of_pair(fair, host, guest)
    if many > bounds[at][1]:
        return None
    bounds[at] = (many, many)
    return some_table(fair, bounds)
