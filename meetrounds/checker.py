"""A small checker: whether a certificate shows that a claim is true."""

from meetrounds.arguments import is_guest, is_host, is_meetings
from meetrounds.bounds import bounds_by_time, is_between, line_of_pair, places_of, urgent_bounds
from meetrounds.errors import InvalidText
from meetrounds.fairs import Fair
from meetrounds.loads import least_rounds, reasons
from meetrounds.places import crossing
from meetrounds.schedules import fits, length_of
from meetrounds.tables import is_within, lines_of, sum_of
from meetrounds.values import is_integer, is_pair

# For each word that a claim can begin with, what stands behind the text of the fair.
_FORMS = {
    "load": ("table", "number"),
    "kept": ("table", "number", "number"),
    "front": ("table", "number", "number", "host", "guest", "number"),
    "late": ("table", "number", "table", "number"),
}


def _fair_of(text):
    """The fair with this text, None if it is the text of none."""
    try:
        return Fair.read(text)
    except InvalidText:
        return None


def _is_part(fair, kind, value):
    """Whether the value is of the kind that a form asks for."""
    if kind == "number":
        return is_integer(value, 0)
    if kind == "host":
        return is_host(fair, value)
    if kind == "guest":
        return is_guest(fair, value)
    return is_meetings(fair, value)


def _are_parts(fair, kinds, parts):
    """Whether the values are of the kinds that a form asks for."""
    return len(parts) == len(kinds) and all([_is_part(fair, kind, part) for kind, part in zip(kinds, parts)])


def _are_different(words, value):
    """Whether any value is a tuple of different ones of these words."""
    if not isinstance(value, tuple) or not all([isinstance(word, str) and word in words for word in value]):
        return False
    return len(set(value)) == len(value)


def _rounds_for(fair, meetings, reason):
    """The ceiling for what a value says to bind, None if it is nothing that can."""
    # Values of other classes may claim to equal a word.
    if not isinstance(reason, tuple) or not all([isinstance(word, str) for word in reason]):
        return None
    for other, need in reasons(fair, meetings):
        if other == reason:
            return need
    return None


def _shows_load(fair, certificate, meetings, rounds):
    """Whether there is a schedule of so many rounds, and something for which fewer are not enough."""
    plan, reason = certificate
    if not fits(fair, meetings, plan) or length_of(plan) != rounds:
        return False
    if reason is None:
        return rounds == 0
    return _rounds_for(fair, meetings, reason) == rounds


def _most_past(fair, meetings, rounds, cut):
    """How many meetings get past a cut at most in so many rounds, None if the value is no cut."""
    if cut is None:
        return None if fair.tables is None else rounds * fair.tables
    if not is_pair(cut):
        return None
    hosts, guests = cut
    if not _are_different([name for name, _ in fair.hosts], hosts):
        return None
    if not _are_different([name for name, _ in fair.guests], guests):
        return None
    most = sum([rounds * bound for name, bound in fair.guests if name in guests])
    for (name, bound), row in zip(fair.hosts, meetings):
        if name in hosts:
            most += sum([many for (other, _), many in zip(fair.guests, row) if other not in guests])
        else:
            most += rounds * bound
    return most


def _shows_kept(fair, certificate, meetings, rounds, many):
    """Whether there is a table of so many meetings that can be kept, and a cut that no more get past."""
    table, cut = certificate
    if not is_meetings(fair, table) or not is_within(table, meetings) or sum_of(table) != many:
        return False
    return least_rounds(fair, table) <= rounds and _most_past(fair, meetings, rounds, cut) == many


def _crossing(fair, bounds, lot):
    """What goes into a lot at least and out of it at most by these bounds, None if the value is no lot."""
    places = places_of(fair)
    if not _are_different(places, lot):
        return None
    return crossing(len(fair.hosts), len(fair.guests), bounds, [places.index(place) for place in lot])


def _shows_front(fair, certificate, meetings, rounds, first, host, guest, many):
    """Whether these two meet so often in a table of first rounds, and a lot between them lets no more through."""
    table, lot = certificate
    if least_rounds(fair, meetings) > rounds or first > rounds:
        return False
    bounds = bounds_by_time(fair, meetings, rounds, first)
    at = line_of_pair(fair, host, guest)
    if not is_between(fair, bounds, table) or lines_of(table)[at] != many:
        return False
    if lot is None:
        return many == bounds[at][1]
    # From the host to the guest a way leads into the lot, too, but its least bound is 0.
    edge = _crossing(fair, bounds, lot)
    return edge is not None and guest in lot and host not in lot and edge[1] - edge[0] == many


def _shows_late(fair, certificate, meetings, rounds, urgent, first):
    """Whether a lot is closed off if so many first rounds are to have the urgent meetings."""
    if least_rounds(fair, meetings) > rounds or first > rounds or not is_within(urgent, meetings):
        return False
    edge = _crossing(fair, urgent_bounds(fair, meetings, rounds, first, urgent), certificate)
    return edge is not None and edge[0] > edge[1]


_SHOWS = {"load": _shows_load, "kept": _shows_kept, "front": _shows_front, "late": _shows_late}


def accepts(claim, certificate):
    """Whether the one is a claim for the checker and the other one a certificate for it, whatever both are."""
    if not isinstance(claim, tuple) or len(claim) < 2 or not isinstance(claim[0], str) or claim[0] not in _FORMS:
        return False
    fair = _fair_of(claim[1])
    parts = claim[2:]
    if fair is None or not _are_parts(fair, _FORMS[claim[0]], parts):
        return False
    # A lot is the whole certificate of a claim of this kind, all others have two parts.
    if claim[0] != "late" and not is_pair(certificate):
        return False
    shows = _SHOWS[claim[0]]
    return shows(fair, certificate, *parts)
