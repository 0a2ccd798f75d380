"""The errors of arguments that many calls have."""

from meetrounds.errors import InvalidMeetings, InvalidNumber, InvalidUrgent, NotAFair, UnknownName
from meetrounds.fairs import Fair
from meetrounds.limits import MOST_MEETINGS
from meetrounds.tables import is_within, table_fault
from meetrounds.values import is_integer


def check_fair(fair):
    """NotAFair if it is none."""
    if not isinstance(fair, Fair):
        raise NotAFair(fair)


def _meetings_fault(fair, value):
    """What is wrong with a table of meetings of the fair: (), or a tuple of the one index to tell."""
    return table_fault(value, len(fair.hosts), len(fair.guests), MOST_MEETINGS)


def is_meetings(fair, value):
    """Whether any value is a table of meetings of the fair."""
    return not _meetings_fault(fair, value)


def check_meetings(fair, meetings):
    """InvalidMeetings if it is no table of meetings of the fair."""
    fault = _meetings_fault(fair, meetings)
    if fault:
        raise InvalidMeetings(fault[0])


def check_urgent(fair, meetings, urgent):
    """InvalidUrgent if it is no table of meetings of the fair within these."""
    fault = _meetings_fault(fair, urgent)
    if fault:
        raise InvalidUrgent(fault[0])
    for index, (row, greater) in enumerate(zip(urgent, meetings)):
        if not is_within((row,), (greater,)):
            raise InvalidUrgent(index)


def check_number(given):
    """InvalidNumber if it is no integer from 0 on."""
    if not is_integer(given, 0):
        raise InvalidNumber(given)


def check_planned(fair, meetings, rounds):
    """The errors of these three arguments, in this order."""
    check_fair(fair)
    check_meetings(fair, meetings)
    check_number(rounds)


def check_first(rounds, first):
    """InvalidNumber if it is no number of first rounds of so many."""
    if not is_integer(first, 0, rounds):
        raise InvalidNumber(first)


def _is_one_of(side, name):
    """Whether the value is the name of one of these hosts or guests."""
    # Values of other classes may claim to equal a name.
    return isinstance(name, str) and name in [member[0] for member in side]


def is_host(fair, value):
    """Whether any value is the name of a host of the fair."""
    return _is_one_of(fair.hosts, value)


def is_guest(fair, value):
    """Whether any value is the name of a guest of the fair."""
    return _is_one_of(fair.guests, value)


def check_pair(fair, host, guest):
    """UnknownName if the one is no host of the fair, or the other one no guest."""
    if not is_host(fair, host):
        raise UnknownName(host)
    if not is_guest(fair, guest):
        raise UnknownName(guest)
