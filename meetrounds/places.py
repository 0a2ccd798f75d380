"""Places and the ways between them, on which tables are found whose lines keep within bounds.

The places are counted: the entry, each host, each guest, the exit. Each line of a table is what goes along one way, so
what comes into a place goes out of it again. Bounds are pairs of the least and the greatest number, one for each line.
"""


def _ways(hosts, guests):
    """For each line the pair of places where its way begins and ends."""
    entry = 0
    way_out = hosts + guests + 1
    host_places = list(range(1, hosts + 1))
    guest_places = list(range(hosts + 1, way_out))
    rows = [(entry, host) for host in host_places]
    numbers = [(host, guest) for host in host_places for guest in guest_places]
    columns = [(guest, way_out) for guest in guest_places]
    return rows + numbers + columns + [(way_out, entry)]


def _surplus(ways, lines, places):
    """How much more comes into each place than goes out of it."""
    surplus = [0] * places
    for (begin, end), many in zip(ways, lines):
        surplus[begin] -= many
        surplus[end] += many
    return surplus


def _steps(ways, lines, bounds):
    """The steps from place to place that are open: (from, to, line, by how much that line can change at most)."""
    steps = []
    for at, (begin, end) in enumerate(ways):
        least, greatest = bounds[at]
        if lines[at] < greatest:
            steps.append((begin, end, at, greatest - lines[at]))
        if lines[at] > least:
            steps.append((end, begin, at, least - lines[at]))
    return steps


def _route(steps, surplus):
    """A shortest row of steps from a place with too much to one with too little; () if there is none."""
    routes = {place: () for place, many in enumerate(surplus) if many > 0}
    layer = list(routes)
    while layer:
        reached = []
        for step in steps:
            begin, end = step[:2]
            if begin in layer and end not in routes:
                routes[end] = routes[begin] + (step,)
                reached.append(end)
                if surplus[end] < 0:
                    return routes[end]
        layer = reached
    return ()


def _settle(ways, lines, bounds, surplus):
    """Changes the lines within their bounds until as little surplus as possible is left, which is changed too."""
    # Shortest routes keep their number small, however great the numbers are that go along them.
    route = _route(_steps(ways, lines, bounds), surplus)
    while route:
        begin = route[0][0]
        end = route[-1][1]
        many = min([abs(step[3]) for step in route] + [surplus[begin], -surplus[end]])
        for step in route:
            at, room = step[2:]
            lines[at] += many if room > 0 else -many
        surplus[begin] -= many
        surplus[end] += many
        route = _route(_steps(ways, lines, bounds), surplus)


def _settled(hosts, guests, bounds):
    """Lines within the bounds with as little surplus as possible, and this surplus."""
    ways = _ways(hosts, guests)
    lines = [least for least, _ in bounds]
    surplus = _surplus(ways, lines, hosts + guests + 2)
    _settle(ways, lines, bounds, surplus)
    return lines, surplus


def some_lines(hosts, guests, bounds):
    """The lines of any table of so many rows and columns within the bounds; None if there is none."""
    lines, surplus = _settled(hosts, guests, bounds)
    if any(surplus):
        return None
    return lines


def _pushed(hosts, guests, bounds, at, goal):
    """All lines and their bounds if this line went to the goal, and the surplus that can't follow it there."""
    ways = _ways(hosts, guests)
    lines = some_lines(hosts, guests, bounds)
    begin, end = ways[at]
    # What the line is to change by must find its way back by other ways.
    held = list(bounds)
    held[at] = (lines[at], lines[at])
    surplus = [0] * (hosts + guests + 2)
    surplus[end] = goal - lines[at]
    surplus[begin] = lines[at] - goal
    _settle(ways, lines, held, surplus)
    return lines, held, surplus


def nearest(hosts, guests, bounds, at, goal):
    """The number nearest to the goal, which is within the bounds, that this line has in tables; there must be some."""
    surplus = _pushed(hosts, guests, bounds, at, goal)[2]
    end = _ways(hosts, guests)[at][1]
    return goal - surplus[end]


def _stuck(ways, lines, bounds, surplus):
    """The lot of places that can be reached from those with too much, when as little surplus as possible is left."""
    steps = _steps(ways, lines, bounds)
    lot = [place for place, many in enumerate(surplus) if many > 0]
    wider = lot
    while wider:
        ends = [step[1] for step in steps if step[0] in wider]
        wider = [place for place in range(len(surplus)) if place in ends and place not in lot]
        lot = lot + wider
    return lot


def closed_lot(hosts, guests, bounds):
    """A lot of places that is closed off, so that there is no table within the bounds; None if there is one."""
    lines, surplus = _settled(hosts, guests, bounds)
    if not any(surplus):
        return None
    return _stuck(_ways(hosts, guests), lines, bounds, surplus)


def holding_lot(hosts, guests, bounds, at):
    """The lot of places that keeps this line from being more in tables, of which there must be some, than it can be.

    It is empty if the greatest bound of the line itself does so.
    """
    lines, held, surplus = _pushed(hosts, guests, bounds, at, bounds[at][1])
    return _stuck(_ways(hosts, guests), lines, held, surplus)


def crossing(hosts, guests, bounds, lot):
    """The least bounds of all ways into a lot of places and the greatest ones of all ways out of it, each together."""
    into = 0
    out = 0
    for (begin, end), (least, greatest) in zip(_ways(hosts, guests), bounds):
        if end in lot and begin not in lot:
            into += least
        if begin in lot and end not in lot:
            out += greatest
    return into, out
