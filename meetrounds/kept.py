"""Meetings that are kept: how many of them can be held in so many rounds, and which."""

from meetrounds.arguments import check_pair, check_planned
from meetrounds.bounds import kept_bounds, most_of_line, range_of_pair, some_table


def best_bounds(fair, meetings, rounds):
    """The bounds for the lines of the best tables; the last one has the most kept as both its numbers."""
    bounds = kept_bounds(fair, meetings, rounds)
    last = len(bounds) - 1
    most = most_of_line(fair, bounds, last)
    bounds[last] = (most, most)
    return bounds


def most_kept(fair, meetings, rounds):
    """The most kept for arguments that are known to be right."""
    return best_bounds(fair, meetings, rounds)[-1][0]


def kept(fair, meetings, rounds):
    """The greatest sum of a table within the meetings that can be held in so many rounds."""
    check_planned(fair, meetings, rounds)
    return most_kept(fair, meetings, rounds)


def keeping(fair, meetings, rounds):
    """Any table with this sum that can be held in so many rounds."""
    check_planned(fair, meetings, rounds)
    return some_table(fair, best_bounds(fair, meetings, rounds))


def kept_range(fair, meetings, rounds, host, guest):
    """How often this host and this guest meet in tables with this sum, at least and at most."""
    check_planned(fair, meetings, rounds)
    check_pair(fair, host, guest)
    return range_of_pair(fair, best_bounds(fair, meetings, rounds), host, guest)
