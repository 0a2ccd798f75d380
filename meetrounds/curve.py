"""The most meetings that first rounds can have, for all numbers of first rounds at once."""

from meetrounds.arguments import check_first, check_planned
from meetrounds.loads import check_enough


def _keep_least(kept, slope, base):
    """Keeps the base under its slope if it is the least one there."""
    kept[slope] = min(base, kept.get(slope, base))


def _host_cuts(fair, meetings):
    """For each choice of hosts the sum of their bounds, and how often the others meet each guest."""
    cuts = [(0, [0] * len(fair.guests))]
    for (_, bound), row in zip(fair.hosts, meetings):
        chosen = [(slope + bound, columns) for slope, columns in cuts]
        left_out = [(slope, [sum(pair) for pair in zip(columns, row)]) for slope, columns in cuts]
        cuts = chosen + left_out
    return cuts


def _cuts(fair, meetings):
    """A dict of slopes and bases: the most in D first rounds is the least one of all base + slope * D.

    Each choice of hosts and guests gives one: D times their bounds, and all meetings of the others with each other.
    That some meetings can't wait doesn't matter: only ways from the entry or to the exit have least bounds above 0,
    and none of these leads from the side of the exit back to that of the entry.
    """
    cuts = {} if fair.tables is None else {fair.tables: 0}
    for host_slope, columns in _host_cuts(fair, meetings):
        bases = {host_slope: 0}
        for (_, bound), many in zip(fair.guests, columns):
            wider = {}
            for slope, base in bases.items():
                _keep_least(wider, slope + bound, base)
                _keep_least(wider, slope, base + many)
            bases = wider
        for slope, base in bases.items():
            _keep_least(cuts, slope, base)
    return cuts


def _most(cuts, first):
    """The most in so many first rounds."""
    return min([base + slope * first for slope, base in cuts.items()])


def _last(cuts, base, slope, rounds):
    """The last number of first rounds up to which no cut is below base + slope * D, if none is at its begin."""
    return min([rounds] + [(other - base) // (slope - less) for less, other in cuts.items() if less < slope])


def curve(fair, meetings, rounds):
    """The most meetings in first rounds as a tuple of triples (begin, base, slope)."""
    check_planned(fair, meetings, rounds)
    check_enough(fair, meetings, rounds)
    cuts = _cuts(fair, meetings)
    triples = []
    begin = 0
    while begin <= rounds:
        most = _most(cuts, begin)
        slope = _most(cuts, begin + 1) - most if begin < rounds else 0
        base = most - slope * begin
        triples.append((begin, base, slope))
        begin = _last(cuts, base, slope, rounds) + 1
    return tuple(triples)


def most_front(fair, meetings, rounds, first):
    """The most meetings in so many first rounds of so many."""
    check_planned(fair, meetings, rounds)
    check_first(rounds, first)
    check_enough(fair, meetings, rounds)
    return _most(_cuts(fair, meetings), first)
