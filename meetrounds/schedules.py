"""Schedules: even ones of meetings, and questions about given ones."""

from meetrounds.arguments import check_fair, check_meetings, check_number
from meetrounds.errors import InvalidIndex, InvalidSchedule
from meetrounds.limits import MOST_SIDE
from meetrounds.loads import check_enough, least_rounds
from meetrounds.places import some_lines
from meetrounds.tables import ceiling, limits_of, lines_of, table_fault, table_of
from meetrounds.values import is_integer, is_pair


def _even_bounds(floors, rests, left):
    """For each line what a round may have of it, if these rests above its floor are to come in the rounds left."""
    bounds = []
    for floor, rest in zip(floors, rests):
        least = floor + 1 if rest == left else floor
        greatest = floor if rest == 0 else floor + 1
        bounds.append((least, greatest))
    return bounds


def _even_blocks(lines, hosts, guests, rounds):
    """The blocks of an even schedule of so many rounds, at least one, whose meetings have these lines."""
    floors = [line // rounds for line in lines]
    rests = [line % rounds for line in lines]
    left = rounds
    blocks = []
    while left:
        chosen = some_lines(hosts, guests, _even_bounds(floors, rests, left))
        more = [line - floor for line, floor in zip(chosen, floors)]
        # As often as can be: behind each block one line more is fixed for all rounds that are left. Of 25 lines that
        # are tied together at 10 places 16 can be fixed one by one, so there are at most 17 blocks.
        times = min([rest if one else left - rest for one, rest in zip(more, rests)])
        rests = [rest - times * one for one, rest in zip(more, rests)]
        left -= times
        blocks.append((table_of(chosen, hosts, guests), times))
    return tuple(blocks)


def schedule(fair, meetings, rounds=None):
    """An even schedule of the meetings with so many rounds, as few as possible if None, in at most 30 blocks."""
    check_fair(fair)
    check_meetings(fair, meetings)
    if rounds is None:
        length = least_rounds(fair, meetings)
    else:
        check_number(rounds)
        check_enough(fair, meetings, rounds)
        length = rounds
    if length == 0:
        return ()
    return _even_blocks(lines_of(meetings), len(fair.hosts), len(fair.guests), length)


def _is_block(value):
    """Whether the value is a pair of anything and an integer from 1 on."""
    return is_pair(value) and is_integer(value[1], 1)


def _are_blocks(value):
    """Whether the value is a tuple of blocks, whatever their tables are."""
    return isinstance(value, tuple) and all([_is_block(block) for block in value])


def is_round(fair, table):
    """Whether any value is a round of the fair."""
    if table_fault(table, len(fair.hosts), len(fair.guests)):
        return False
    return all([limit is None or line <= limit for line, limit in zip(lines_of(table), limits_of(fair))])


def _is_schedule(fair, value):
    """Whether any value is a schedule of the fair."""
    return _are_blocks(value) and all([is_round(fair, table) for table, _ in value])


def length_of(blocks):
    """The number of rounds of these blocks."""
    return sum([times for _, times in blocks])


def _sum_of_lines(blocks):
    """The lines of the meetings of these blocks, of which there is at least one."""
    repeated = [[line * times for line in lines_of(table)] for table, times in blocks]
    return [sum(column) for column in zip(*repeated)]


def fits(fair, meetings, value):
    """Whether any value is a schedule of the fair whose meetings are these."""
    check_fair(fair)
    check_meetings(fair, meetings)
    if not _is_schedule(fair, value):
        return False
    if not value:
        return not any(lines_of(meetings))
    return _sum_of_lines(value) == lines_of(meetings)


def _are_tables_alike(blocks):
    """Whether the tables of these blocks, whatever they are, are tables of one size that a fair can have."""
    first = blocks[0][0]
    if not isinstance(first, tuple) or not first or not isinstance(first[0], tuple):
        return False
    hosts, guests = len(first), len(first[0])
    if hosts > MOST_SIDE or not 1 <= guests <= MOST_SIDE:
        return False
    return not any([table_fault(table, hosts, guests) for table, _ in blocks])


def is_even(value):
    """Whether a schedule has the floor or the ceiling of each line in each of its rounds."""
    if not _are_blocks(value):
        raise InvalidSchedule(value)
    if not value:
        return True
    if not _are_tables_alike(value):
        raise InvalidSchedule(value)
    length = length_of(value)
    even = [(line // length, ceiling(line, length)) for line in _sum_of_lines(value)]
    return all([line in pair for table, _ in value for line, pair in zip(lines_of(table), even)])


def round_at(fair, value, index):
    """The round with this index in a schedule of the fair."""
    check_fair(fair)
    if not _is_schedule(fair, value):
        raise InvalidSchedule(value)
    if not is_integer(index, 0):
        raise InvalidIndex(index)
    passed = 0
    for table, times in value:
        passed += times
        if index < passed:
            return table
    raise InvalidIndex(index)
