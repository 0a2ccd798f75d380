"""The load of a fair: how many rounds are needed, and what binds."""

from meetrounds.arguments import check_fair, check_meetings, check_planned
from meetrounds.errors import TooFewRounds
from meetrounds.fairs import Fair
from meetrounds.tables import ceiling, sum_of


def reasons(fair, meetings):
    """Pairs of what can bind, a host, a guest or the tables, and of how many rounds it needs."""
    columns = [sum(column) for column in zip(*meetings)]
    pairs = [(("host", name), ceiling(sum(row), bound)) for (name, bound), row in zip(fair.hosts, meetings)]
    pairs.extend([(("guest", name), ceiling(many, bound)) for (name, bound), many in zip(fair.guests, columns)])
    if fair.tables is not None:
        pairs.append((("tables",), ceiling(sum(columns), fair.tables)))
    return pairs


def least_rounds(fair, meetings):
    """The load for a fair and meetings that are known to be such."""
    return max([need for _, need in reasons(fair, meetings)])


def check_enough(fair, meetings, rounds):
    """TooFewRounds if the load is more than the rounds."""
    needed = least_rounds(fair, meetings)
    if needed > rounds:
        raise TooFewRounds(needed)


def load(fair, meetings):
    """The least number of rounds in which the meetings can be held."""
    check_fair(fair)
    check_meetings(fair, meetings)
    return least_rounds(fair, meetings)


def binding(fair, meetings):
    """The host, the guest or the tables for which the load can't be less; None if there is nothing to meet."""
    check_fair(fair)
    check_meetings(fair, meetings)
    most = least_rounds(fair, meetings)
    if most == 0:
        return None
    return [reason for reason, need in reasons(fair, meetings) if need == most][0]


def tables_needed(fair, meetings, rounds):
    """The least number of tables with which the rounds are enough; None if no number of tables does it."""
    check_planned(fair, meetings, rounds)
    many = sum_of(meetings)
    if many == 0:
        return 0
    if least_rounds(Fair(fair.hosts, fair.guests), meetings) > rounds:
        return None
    return ceiling(many, rounds)
