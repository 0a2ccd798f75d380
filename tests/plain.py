"""Plain searches and plain sums that answer what the package answers, for fairs that are small enough."""

import itertools
import random

from meetrounds.fairs import Fair

SCHOOL = Fair.read("host ann 1\nhost bob 1\nguest x 1\nguest y 2\ntables 2")
WIDE = Fair((("ann", 1), ("bob", 1)), (("x", 1), ("y", 2)))
MOST = 10 ** 30
HOST_NAMES = ("a", "b", "c", "d")
GUEST_NAMES = ("w", "x", "y", "z")


def fair_of(hosts, guests, tables=None):
    """The fair with hosts and guests of these bounds."""
    return Fair(tuple(zip(HOST_NAMES, hosts)), tuple(zip(GUEST_NAMES, guests)), tables)


def nothing(fair):
    """The table in which nobody meets."""
    return ((0,) * len(fair.guests),) * len(fair.hosts)


def pairs_of(fair):
    """All hosts with all guests, by their indexes and by their names."""
    for (row, (host, _)), (column, (guest, _)) in itertools.product(enumerate(fair.hosts), enumerate(fair.guests)):
        yield row, column, host, guest


def combined(left, right, function):
    """The table that has the function of two tables' numbers as its numbers."""
    return tuple(tuple(map(function, one, other)) for one, other in zip(left, right))


def plus(left, right):
    return combined(left, right, lambda one, other: one + other)


def minus(left, right):
    return combined(left, right, lambda one, other: one - other)


def rows_of(table):
    return [sum(row) for row in table]


def columns_of(table):
    return [sum(column) for column in zip(*table)]


def sum_of(table):
    return sum(rows_of(table))


def is_inside(table, most):
    """Whether a table is within another one."""
    return all(number <= other for pair in zip(table, most) for number, other in zip(*pair))


def all_lines(table):
    """All lines of a table under names of their own."""
    lines = {("row", at): many for at, many in enumerate(rows_of(table))}
    lines.update({("column", at): many for at, many in enumerate(columns_of(table))})
    lines.update({(at, to): many for at, row in enumerate(table) for to, many in enumerate(row)})
    lines["sum"] = sum_of(table)
    return lines


def is_round(fair, table):
    """Whether a table is a round of the fair, promise [8]."""
    if any(many > bound for many, (_, bound) in zip(rows_of(table), fair.hosts)):
        return False
    if any(many > bound for many, (_, bound) in zip(columns_of(table), fair.guests)):
        return False
    return fair.tables is None or sum_of(table) <= fair.tables


def tables_within(most):
    """All tables within this one."""
    rows = [list(itertools.product(*[range(many + 1) for many in row])) for row in most]
    return list(itertools.product(*rows))


def load_of(fair, meetings):
    """The load by the words of promise [9]."""
    needs = [-(-many // bound) for many, (_, bound) in zip(rows_of(meetings), fair.hosts)]
    needs += [-(-many // bound) for many, (_, bound) in zip(columns_of(meetings), fair.guests)]
    if fair.tables is not None:
        needs.append(-(-sum_of(meetings) // fair.tables))
    return max(needs)


class Search:
    """What so many rounds can have of some meetings, found by going through all rounds."""

    def __init__(self, fair, meetings):
        self.meetings = meetings
        self._tables = tables_within(meetings)
        self._rounds = [table for table in self._tables if is_round(fair, table)]
        self._inside = set(self._tables)
        self._reached = [{nothing(fair)}]

    def reached(self, rounds):
        """All tables within the meetings that just so many rounds can have."""
        while len(self._reached) <= rounds:
            sums = {plus(table, one) for table in self._reached[-1] for one in self._rounds}
            self._reached.append(sums & self._inside)
        return self._reached[rounds]

    def load(self):
        """The least number of rounds that can have the meetings."""
        return next(rounds for rounds in itertools.count() if self.meetings in self.reached(rounds))

    def fronts(self, rounds, first):
        """All tables that so many first rounds can have in schedules of so many rounds."""
        rest = self.reached(rounds - first)
        return {table for table in self.reached(first) if minus(self.meetings, table) in rest}


def bounds_by_time(fair, meetings, rounds, first):
    """The bounds by time by the words of promise [15], under the names of the lines."""
    bounds = {(at, to): (0, many) for at, row in enumerate(meetings) for to, many in enumerate(row)}
    limits = {("row", at): bound for at, (_, bound) in enumerate(fair.hosts)}
    limits.update({("column", at): bound for at, (_, bound) in enumerate(fair.guests)})
    if fair.tables is None:
        bounds["sum"] = (0, sum_of(meetings))
    else:
        limits["sum"] = fair.tables
    lines = all_lines(meetings)
    for name, limit in limits.items():
        bounds[name] = (max(0, lines[name] - (rounds - first) * limit), first * limit)
    return bounds


def urgent_bounds(fair, meetings, rounds, first, urgent):
    """The bounds by time with the numbers of urgent in the place of 0."""
    bounds = bounds_by_time(fair, meetings, rounds, first)
    for row, column, _, _ in pairs_of(fair):
        bounds[row, column] = (urgent[row][column], meetings[row][column])
    return bounds


def kept_bounds(fair, meetings, rounds):
    """The bounds of the tables that can be kept, by the words of promise [12], under the names of the lines."""
    bounds = {(row, column): (0, meetings[row][column]) for row, column, _, _ in pairs_of(fair)}
    bounds.update({("row", at): (0, rounds * bound) for at, (_, bound) in enumerate(fair.hosts)})
    bounds.update({("column", at): (0, rounds * bound) for at, (_, bound) in enumerate(fair.guests)})
    bounds["sum"] = (0, sum_of(meetings) if fair.tables is None else rounds * fair.tables)
    return bounds


def keeps_within(table, bounds):
    """Whether all lines of a table keep within the bounds."""
    lines = all_lines(table)
    return all(bounds[name][0] <= lines[name] <= bounds[name][1] for name in bounds)


def way_of(name):
    """The places where the way of a line begins and ends."""
    if name == "sum":
        return ">", "<"
    if name[0] == "row":
        return "<", ("host", name[1])
    if name[0] == "column":
        return ("guest", name[1]), ">"
    return ("host", name[0]), ("guest", name[1])


def all_lots(hosts, guests):
    """All lots of places."""
    places = ["<", ">"] + [("host", at) for at in range(hosts)] + [("guest", at) for at in range(guests)]
    for chosen in itertools.product((False, True), repeat=len(places)):
        yield {place for place, is_in in zip(places, chosen) if is_in}


def in_and_out(bounds, lot):
    """The least bounds of all ways into a lot and the greatest ones of all ways out of it, each together."""
    least = greatest = 0
    for name, (low, high) in bounds.items():
        begin, end = way_of(name)
        if end in lot and begin not in lot:
            least += low
        if begin in lot and end not in lot:
            greatest += high
    return least, greatest


def is_possible(hosts, guests, bounds):
    """Whether there is a table with such lines: no least bound is too great and no lot is closed off."""
    if any(low > high for low, high in bounds.values()):
        return False
    return not any(least > most for least, most in (in_and_out(bounds, lot) for lot in all_lots(hosts, guests)))


def range_by_lots(hosts, guests, bounds, name):
    """The least and the most that a line can be in the tables within the bounds, of which there are some."""
    least, most = bounds[name]
    begin, end = way_of(name)
    others = {other: bounds[other] for other in bounds if other != name}
    for lot in all_lots(hosts, guests):
        inside, outside = in_and_out(others, lot)
        if end in lot and begin not in lot:
            most = min(most, outside - inside)
        if begin in lot and end not in lot:
            least = max(least, inside - outside)
    return least, most


def is_table(fair, value):
    """Whether any value is a table of meetings of the fair, promise [7]."""
    if type(value) is not tuple or len(value) != len(fair.hosts):
        return False
    if any(type(row) is not tuple or len(row) != len(fair.guests) for row in value):
        return False
    return all(type(many) is int and 0 <= many <= MOST for row in value for many in row)


def most_met(fair, meetings, rounds, first, host, guest):
    """The most that these two meet in first rounds, as the lots of places tell it."""
    at = fair.names.index(host), fair.names.index(guest) - len(fair.hosts)
    return range_by_lots(len(fair.hosts), len(fair.guests), bounds_by_time(fair, meetings, rounds, first), at)[1]


def are_enough(fair, meetings, rounds, urgent, first):
    """Whether so many first rounds are enough, as the lots of places tell it."""
    bounds = urgent_bounds(fair, meetings, rounds, first, urgent)
    return is_possible(len(fair.hosts), len(fair.guests), bounds)


def most_kept(fair, meetings, rounds):
    """The most kept, as the lots of places tell it."""
    return range_by_lots(len(fair.hosts), len(fair.guests), kept_bounds(fair, meetings, rounds), "sum")[1]


def wish_holds(fair, wish):
    """Whether a wish holds for this fair, by the words of promise [14]."""
    kind, _, meetings, rounds, *rest = wish
    if not is_table(fair, meetings):
        return False
    if kind == "kept":
        return most_kept(fair, meetings, rounds) >= rest[0]
    if load_of(fair, meetings) > rounds:
        return False
    if kind == "front":
        first, host, guest, many = rest
        if first > rounds or host not in [name for name, _ in fair.hosts]:
            return False
        if guest not in [name for name, _ in fair.guests]:
            return False
        return most_met(fair, meetings, rounds, first, host, guest) <= many
    if kind == "urgent":
        urgent, first = rest
        if first > rounds or not is_table(fair, urgent) or not is_inside(urgent, meetings):
            return False
        return are_enough(fair, meetings, rounds, urgent, first)
    return True


def curve_of(values):
    """The triples of a curve that is told by all its values."""
    triples = []
    last = len(values) - 1
    begin = 0
    while begin <= last:
        slope = values[begin + 1] - values[begin] if begin < last else 0
        base = values[begin] - slope * begin
        triples.append((begin, base, slope))
        while begin <= last and values[begin] == base + slope * begin:
            begin += 1
    return tuple(triples)


def small_cases():
    """Small fairs with small meetings, for searches through all rounds."""
    for host, guest, tables in itertools.product((1, 2, 4), (1, 3), (None, 1, 2, 12)):
        for many in (0, 1, 4, 5):
            yield fair_of((host,), (guest,), tables), ((many,),)
    for tables in (None, 1, 2, 3):
        for meetings in itertools.product(itertools.product((0, 1, 2), repeat=2), repeat=2):
            if sum_of(meetings) in (0, 3, 5):
                yield fair_of((1, 1), (1, 2), tables), meetings
    for meetings, tables in itertools.product((((2, 1), (0, 3)), ((3, 0), (1, 1)), ((0, 0), (2, 2))), (None, 2, 4)):
        yield fair_of((2, 1), (1, 3), tables), meetings
        yield fair_of((3, 2), (4, 1), tables), meetings
    wide = (((1, 2, 0, 1),), ((0, 0, 0, 3),), ((2, 1, 2, 1),))
    for meetings, tables in itertools.product(wide, (None, 2)):
        yield fair_of((2,), (1, 2, 1, 1), tables), meetings
        yield fair_of((1, 2, 1, 1), (3,), tables), tuple(zip(*meetings))
    for tables in (None, 1, 2, 3):
        yield fair_of((1, 1), (1, 1, 1), tables), ((1, 1, 0), (0, 2, 1))
        yield fair_of((2, 1, 1), (2, 1), tables), ((2, 0), (1, 1), (0, 2))
        yield fair_of((1, 1, 1), (1, 1, 1), tables), ((1, 1, 0), (0, 1, 1), (1, 0, 1))


def any_number(source):
    """A number of meetings of any size."""
    kind = source.randrange(8)
    if kind == 0:
        return 0
    if kind == 1:
        return MOST
    if kind == 2:
        return MOST - source.randrange(10)
    return source.randrange(10 ** source.randrange(1, 31))


def any_case(source):
    """Any fair and any meetings of it."""
    hosts = [source.randrange(1, 5) for _ in range(source.randrange(1, 5))]
    guests = [source.randrange(1, 5) for _ in range(source.randrange(1, 5))]
    tables = source.choice((None, 1, 2, 3, 5, 8, 11, 12))
    small = source.randrange(3) == 0
    meetings = tuple(
        tuple(source.randrange(8) if small else any_number(source) for _ in guests) for _ in hosts
    )
    return fair_of(hosts, guests, tables), meetings


def any_rounds(source, load):
    """Any number of rounds that are enough for this load, often just so many."""
    return load + source.choice((0, 0, 0, 1, 2, load, 3 * load + 7, source.randrange(load + 2), 10 ** 79))


def any_within(source, meetings):
    """Any table within the meetings."""
    kind = source.randrange(5)
    if kind == 0:
        return meetings
    if kind == 1:
        return tuple(tuple(source.choice((0, 0, 0, many)) for many in row) for row in meetings)
    return tuple(tuple(source.choice((0, many, source.randrange(many + 1))) for many in row) for row in meetings)


def any_first(source, rounds):
    """Any number of first rounds of so many."""
    kind = source.randrange(8)
    if kind < 2:
        return (0, rounds)[kind]
    if kind == 2:
        return min(rounds, source.randrange(4))
    if kind == 3:
        return max(0, rounds - source.randrange(4))
    return source.randrange(rounds + 1)


def great_cases(many, seed):
    """So many fairs with meetings of any size, the same ones in each run."""
    source = random.Random(seed)
    four = fair_of((1, 2, 3, 4), (4, 3, 2, 1), 12)
    most = ((MOST,) * 4,) * 4
    for fair, meetings in ((four, most), (fair_of((4,) * 4, (4,) * 4), most), (four, nothing(four))):
        yield fair, meetings, source
    for _ in range(many):
        fair, meetings = any_case(source)
        yield fair, meetings, source
