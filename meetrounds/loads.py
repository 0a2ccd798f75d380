"""The load of a fair: how many rounds are needed, and what binds."""

from meetrounds.arguments import check_fair, check_meetings, check_planned
from meetrounds.errors import TooFewRounds
from meetrounds.fairs import Fair
from meetrounds.tables import ceiling, limits_of, lines_of, sum_of


def _reasons(fair):
    """For each line what it can bind by, None for the numbers, which bind by nothing of their own."""
    hosts = [("host", name) for name, _ in fair.hosts]
    guests = [("guest", name) for name, _ in fair.guests]
    return hosts + [None] * (len(hosts) * len(guests)) + guests + [("tables",)]


def _needs(fair, meetings):
    """For each line the number of rounds that it needs; 0 where nothing limits it."""
    needs = []
    for line, limit in zip(lines_of(meetings), limits_of(fair)):
        needs.append(0 if limit is None else ceiling(line, limit))
    return needs


def least_rounds(fair, meetings):
    """The load for a fair and meetings that are known to be such."""
    return max(_needs(fair, meetings))


def check_enough(fair, meetings, rounds):
    """TooFewRounds if the load is more than the rounds."""
    needed = least_rounds(fair, meetings)
    if needed > rounds:
        raise TooFewRounds(needed)


def load(fair, meetings):
    """The least number of rounds in which the meetings can be held."""
    check_fair(fair)
    check_meetings(fair, meetings)
    return least_rounds(fair, meetings)


def binding(fair, meetings):
    """The host, the guest or the tables for which the load can't be less; None if there is nothing to meet."""
    check_fair(fair)
    check_meetings(fair, meetings)
    needs = _needs(fair, meetings)
    most = max(needs)
    if most == 0:
        return None
    return _reasons(fair)[needs.index(most)]


def tables_needed(fair, meetings, rounds):
    """The least number of tables with which the rounds are enough; None if no number of tables does it."""
    check_planned(fair, meetings, rounds)
    many = sum_of(meetings)
    if many == 0:
        return 0
    if least_rounds(Fair(fair.hosts, fair.guests), meetings) > rounds:
        return None
    return ceiling(many, rounds)
