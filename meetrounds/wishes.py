"""Wishes of a book: which values are wishes, and whether a wish holds for a fair."""

from meetrounds.arguments import is_guest, is_host, is_meetings
from meetrounds.bounds import bounds_by_time, range_of_pair
from meetrounds.kept import most_kept
from meetrounds.limits import MOST_MEETINGS, MOST_SIDE
from meetrounds.loads import least_rounds
from meetrounds.tables import is_within
from meetrounds.urgent import urgent_front
from meetrounds.values import is_integer, is_name

# For each word that a wish can begin with, what stands behind it.
_FORMS = {
    "load": ("name", "table", "number"),
    "front": ("name", "table", "number", "number", "name", "name", "number"),
    "urgent": ("name", "table", "number", "table", "number"),
    "kept": ("name", "table", "number", "number"),
}


def _is_some_row(value):
    """Whether the value is a row of a table of meetings of some fair."""
    if not isinstance(value, tuple) or not 1 <= len(value) <= MOST_SIDE:
        return False
    return all([is_integer(number, 0, MOST_MEETINGS) for number in value])


def _is_some_table(value):
    """Whether the value is a tuple of one to four such rows, be they of one length or not."""
    if not isinstance(value, tuple) or not 1 <= len(value) <= MOST_SIDE:
        return False
    return all([_is_some_row(row) for row in value])


def _is_part(kind, value):
    """Whether the value is of the kind that a form asks for."""
    if kind == "name":
        return is_name(value)
    if kind == "number":
        return is_integer(value, 0)
    return _is_some_table(value)


def is_wish(value):
    """Whether any value is a tuple of one of the forms of wishes."""
    if not isinstance(value, tuple) or not value or not isinstance(value[0], str):
        return False
    kinds = _FORMS.get(value[0], ())
    parts = value[1:]
    if not kinds or len(parts) != len(kinds):
        return False
    return all([_is_part(kind, part) for kind, part in zip(kinds, parts)])


def _load_holds(fair, meetings, rounds):
    """Whether the meetings are such of the fair and the load is at most the rounds."""
    return is_meetings(fair, meetings) and least_rounds(fair, meetings) <= rounds


def _front_holds(fair, meetings, rounds, first, host, guest, many):
    """Whether these two meet no more often than this in first rounds, in any schedule."""
    if not _load_holds(fair, meetings, rounds) or first > rounds:
        return False
    if not is_host(fair, host) or not is_guest(fair, guest):
        return False
    return range_of_pair(fair, bounds_by_time(fair, meetings, rounds, first), host, guest)[1] <= many


def _urgent_holds(fair, meetings, rounds, urgent, first):
    """Whether so many first rounds are enough for the urgent meetings."""
    if not _load_holds(fair, meetings, rounds) or first > rounds:
        return False
    if not is_meetings(fair, urgent) or not is_within(urgent, meetings):
        return False
    return urgent_front(fair, meetings, rounds, urgent, first) is not None


def _kept_holds(fair, meetings, rounds, many):
    """Whether at least so many meetings can be kept."""
    return is_meetings(fair, meetings) and most_kept(fair, meetings, rounds) >= many


_CONDITIONS = {"load": _load_holds, "front": _front_holds, "urgent": _urgent_holds, "kept": _kept_holds}


def holds(fair, wish):
    """Whether a wish about this fair holds."""
    condition = _CONDITIONS[wish[0]]
    parts = wish[2:]
    return condition(fair, *parts)
