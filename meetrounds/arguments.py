"""The errors of arguments that many calls have."""

from meetrounds.errors import InvalidMeetings, InvalidNumber, NotAFair, UnknownName
from meetrounds.fairs import Fair
from meetrounds.limits import MOST_MEETINGS
from meetrounds.tables import table_fault
from meetrounds.values import is_integer


def check_fair(fair):
    """NotAFair if it is none."""
    if not isinstance(fair, Fair):
        raise NotAFair(fair)


def check_meetings(fair, meetings):
    """InvalidMeetings if it is no table of meetings of the fair."""
    fault = table_fault(meetings, len(fair.hosts), len(fair.guests), MOST_MEETINGS)
    if fault:
        raise InvalidMeetings(fault[0])


def check_number(given):
    """InvalidNumber if it is no integer from 0 on."""
    if not is_integer(given, 0):
        raise InvalidNumber(given)


def check_planned(fair, meetings, rounds):
    """The errors of these three arguments, in this order."""
    check_fair(fair)
    check_meetings(fair, meetings)
    check_number(rounds)


def check_first(rounds, first):
    """InvalidNumber if it is no number of first rounds of so many."""
    if not is_integer(first, 0, rounds):
        raise InvalidNumber(first)


def _is_one_of(side, name):
    """Whether the value is the name of one of these hosts or guests."""
    # Values of other classes may claim to equal a name.
    return isinstance(name, str) and name in [member[0] for member in side]


def check_pair(fair, host, guest):
    """UnknownName if the one is no host of the fair, or the other one no guest."""
    if not _is_one_of(fair.hosts, host):
        raise UnknownName(host)
    if not _is_one_of(fair.guests, guest):
        raise UnknownName(guest)
