"""Claims for the checker with certificates that it accepts."""

from meetrounds.arguments import check_fair, check_first, check_meetings, check_pair, check_planned, check_urgent
from meetrounds.bounds import (
    bounds_by_time, kept_bounds, line_of_pair, most_of_line, places_of, some_table, urgent_bounds,
)
from meetrounds.kept import best_bounds
from meetrounds.loads import binding, check_enough, least_rounds
from meetrounds.places import closed_lot, holding_lot
from meetrounds.schedules import schedule
from meetrounds.tables import sum_of
from meetrounds.urgent import least_first


def _named(fair, numbers):
    """The lot of the places that have these numbers."""
    places = places_of(fair)
    return tuple([places[number] for number in numbers])


def certify_load(fair, meetings):
    """That the load is what it is."""
    check_fair(fair)
    check_meetings(fair, meetings)
    claim = ("load", str(fair), meetings, least_rounds(fair, meetings))
    return claim, (schedule(fair, meetings), binding(fair, meetings))


def _cut(fair, meetings, rounds, most):
    """The cut that no more than the most kept get past."""
    if fair.tables is not None and rounds * fair.tables == most:
        return None
    names = fair.names
    hosts = len(fair.hosts)
    if sum_of(meetings) == most:
        return names[:hosts], ()
    bounds = kept_bounds(fair, meetings, rounds)
    lot = _named(fair, holding_lot(hosts, len(fair.guests), bounds, len(bounds) - 1))
    chosen_hosts = [name for name in names[:hosts] if name in lot]
    chosen_guests = [name for name in names[hosts:] if name in lot]
    return tuple(chosen_hosts), tuple(chosen_guests)


def certify_kept(fair, meetings, rounds):
    """That the most kept is what it is."""
    check_planned(fair, meetings, rounds)
    bounds = best_bounds(fair, meetings, rounds)
    most = bounds[-1][0]
    claim = ("kept", str(fair), meetings, rounds, most)
    return claim, (some_table(fair, bounds), _cut(fair, meetings, rounds, most))


def certify_front(fair, meetings, rounds, first, host, guest):
    """That these two meet at most so often in so many first rounds."""
    check_planned(fair, meetings, rounds)
    check_first(rounds, first)
    check_pair(fair, host, guest)
    check_enough(fair, meetings, rounds)
    bounds = bounds_by_time(fair, meetings, rounds, first)
    at = line_of_pair(fair, host, guest)
    most = most_of_line(fair, bounds, at)
    lot = None
    if most < bounds[at][1]:
        lot = _named(fair, holding_lot(len(fair.hosts), len(fair.guests), bounds, at))
    bounds[at] = (most, most)
    claim = ("front", str(fair), meetings, rounds, first, host, guest, most)
    return claim, (some_table(fair, bounds), lot)


def certify_late(fair, meetings, rounds, urgent):
    """That one first round less than are enough for the urgent meetings is not enough; None if none are needed."""
    check_planned(fair, meetings, rounds)
    check_urgent(fair, meetings, urgent)
    check_enough(fair, meetings, rounds)
    late = least_first(fair, meetings, rounds, urgent) - 1
    if late < 0:
        return None
    bounds = urgent_bounds(fair, meetings, rounds, late, urgent)
    lot = _named(fair, closed_lot(len(fair.hosts), len(fair.guests), bounds))
    return ("late", str(fair), meetings, rounds, urgent, late), lot
