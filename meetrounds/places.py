"""Places and the ways between them, on which tables are found whose lines keep within bounds.

The places are counted: the entry, each host, each guest, the exit. Each line of a table is what goes along one way, so
what comes into a place goes out of it again. Bounds are pairs of the least and the greatest number, one for each line.
"""


def _ways(hosts, guests):
    """For each line the pair of places where its way begins and ends."""
    entry = 0
    way_out = hosts + guests + 1
    host_places = list(range(1, hosts + 1))
    guest_places = list(range(hosts + 1, way_out))
    rows = [(entry, host) for host in host_places]
    numbers = [(host, guest) for host in host_places for guest in guest_places]
    columns = [(guest, way_out) for guest in guest_places]
    return rows + numbers + columns + [(way_out, entry)]


def _surplus(ways, lines, places):
    """How much more comes into each place than goes out of it."""
    surplus = [0] * places
    for (begin, end), many in zip(ways, lines):
        surplus[begin] -= many
        surplus[end] += many
    return surplus


def _steps(ways, lines, bounds):
    """The steps from place to place that are open: (from, to, line, by how much that line can change at most)."""
    steps = []
    for at, (begin, end) in enumerate(ways):
        least, greatest = bounds[at]
        if lines[at] < greatest:
            steps.append((begin, end, at, greatest - lines[at]))
        if lines[at] > least:
            steps.append((end, begin, at, least - lines[at]))
    return steps


def _route(steps, surplus):
    """A shortest row of steps from a place with too much to one with too little; () if there is none."""
    routes = {place: () for place, many in enumerate(surplus) if many > 0}
    layer = list(routes)
    while layer:
        reached = []
        for step in steps:
            begin, end = step[:2]
            if begin in layer and end not in routes:
                routes[end] = routes[begin] + (step,)
                reached.append(end)
                if surplus[end] < 0:
                    return routes[end]
        layer = reached
    return ()


def _settle(ways, lines, bounds, surplus):
    """Changes the lines within their bounds until as little surplus as possible is left, which is changed too."""
    # Shortest routes keep their number small, however great the numbers are that go along them.
    route = _route(_steps(ways, lines, bounds), surplus)
    while route:
        begin = route[0][0]
        end = route[-1][1]
        many = min([abs(step[3]) for step in route] + [surplus[begin], -surplus[end]])
        for step in route:
            at, room = step[2:]
            lines[at] += many if room > 0 else -many
        surplus[begin] -= many
        surplus[end] += many
        route = _route(_steps(ways, lines, bounds), surplus)


def some_lines(hosts, guests, bounds):
    """The lines of any table of so many rows and columns within the bounds; None if there is none."""
    ways = _ways(hosts, guests)
    lines = [least for least, _ in bounds]
    surplus = _surplus(ways, lines, hosts + guests + 2)
    _settle(ways, lines, bounds, surplus)
    if any(surplus):
        return None
    return lines


def nearest(hosts, guests, bounds, at, goal):
    """The number nearest to the goal, which is within the bounds, that this line has in tables; there must be some."""
    ways = _ways(hosts, guests)
    lines = some_lines(hosts, guests, bounds)
    begin, end = ways[at]
    # What the line is to change by must find its way back by other ways.
    held = list(bounds)
    held[at] = (lines[at], lines[at])
    surplus = [0] * (hosts + guests + 2)
    surplus[end] = goal - lines[at]
    surplus[begin] = lines[at] - goal
    _settle(ways, lines, held, surplus)
    return goal - surplus[end]
