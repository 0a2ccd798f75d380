"""Meetings that grow: the load at all steps, told by a few of its numbers.

A growing line is a triple of its start, its growth and its limit: it needs the ceiling of start + step * growth by the
limit, and the load is the most that one of them needs.
"""

from math import gcd

from meetrounds.arguments import check_fair
from meetrounds.errors import InvalidGrowth, InvalidMeetings
from meetrounds.tables import ceiling, limits_of, lines_of, table_fault

_MOST_START = 9
_MOST_GROWTH = 3


def _growing_lines(fair, start, growth):
    """The growing lines that are limited."""
    triples = list(zip(lines_of(start), lines_of(growth), limits_of(fair)))
    return [triple for triple in triples if triple[2] is not None]


def _load_at(growing, step):
    """The most that one of the growing lines needs at this step."""
    return max([ceiling(start + step * growth, limit) for start, growth, limit in growing])


def _lead(one, other):
    """How much faster the one grows than the other: more than 0 just if it does, 0 just if they grow alike."""
    return one[1] * other[2] - other[1] * one[2]


def _fastest(growing):
    """Any one of those that grow fastest."""
    best = growing[0]
    for one in growing:
        if _lead(one, best) > 0:
            best = one
    return best


def _overtaken(best, growing):
    """The first step from which on none that grows more slowly needs more than the best one."""
    steps = [0]
    for one in growing:
        lead = _lead(best, one)
        if lead > 0:
            steps.append(ceiling(one[0] * best[2] - best[0] * one[2], lead))
    return max(steps)


def grown(fair, start, growth):
    """The load at all steps as a triple (early, period, rise)."""
    check_fair(fair)
    fault = table_fault(start, len(fair.hosts), len(fair.guests), _MOST_START)
    if fault:
        raise InvalidMeetings(fault[0])
    fault = table_fault(growth, len(fair.hosts), len(fair.guests), _MOST_GROWTH)
    if fault:
        raise InvalidGrowth(fault[0])
    growing = _growing_lines(fair, start, growth)
    best = _fastest(growing)
    # In the end only those count that grow as fast as the best one, by rise / period a step, a fraction in lowest
    # terms: in so many steps each of them rises by just this, and in no fewer steps by any integer.
    share = gcd(best[1], best[2])
    period = best[2] // share
    rise = best[1] // share
    begin = _overtaken(best, growing)
    while begin > 0 and _load_at(growing, begin - 1 + period) - _load_at(growing, begin - 1) == rise:
        begin -= 1
    return tuple([_load_at(growing, step) for step in range(begin + period)]), period, rise
