"""Changes of bounds and tables: which of them make the loads that are asked for small enough."""

from meetrounds.arguments import check_fair, is_meetings
from meetrounds.errors import InvalidAsked, InvalidChanges
from meetrounds.fairs import Fair
from meetrounds.limits import MOST_BOUND, MOST_CHANGES, MOST_TABLES
from meetrounds.loads import least_rounds
from meetrounds.values import is_integer, is_pair

_TABLES = "tables"


def _is_change(fair, value):
    """Whether any value is a change of the fair."""
    if not is_pair(value) or not isinstance(value[0], str):
        return False
    # A host or guest of this name can't be changed: the word stands for the tables.
    if value[0] == _TABLES:
        return is_integer(value[1], 1, MOST_TABLES)
    return value[0] in fair and is_integer(value[1], 1, MOST_BOUND)


def _check_changes(fair, changes):
    """InvalidChanges if it is no tuple of changes."""
    if not isinstance(changes, tuple):
        raise InvalidChanges(None)
    seen = []
    for index, change in enumerate(changes):
        if index == MOST_CHANGES or not _is_change(fair, change) or change[0] in seen:
            raise InvalidChanges(index)
        seen.append(change[0])


def _check_asked(fair, asked):
    """InvalidAsked if it is no tuple of pairs of meetings and rounds."""
    if not isinstance(asked, tuple):
        raise InvalidAsked(None)
    for index, pair in enumerate(asked):
        if not is_pair(pair) or not is_meetings(fair, pair[0]) or not is_integer(pair[1], 0):
            raise InvalidAsked(index)


def _all_sets(many):
    """All sets of so many indexes, ordered by how many these are, then ascending."""
    sets = []
    layer = [()]
    while layer:
        sets.extend(layer)
        layer = [one + (index,) for one in layer for index in range(many) if not one or one[-1] < index]
    return sets


def _side_with(side, bounds):
    """The hosts or the guests with these bounds instead of their own."""
    return tuple([(name, bounds.get(name, bound)) for name, bound in side])


def _changed(fair, changes):
    """The fair behind these changes."""
    tables = fair.tables
    bounds = {}
    for name, number in changes:
        if name == _TABLES:
            tables = number
        else:
            bounds[name] = number
    return Fair(_side_with(fair.hosts, bounds), _side_with(fair.guests, bounds), tables)


def _does_it(fair, asked):
    """Whether each load that is asked for is small enough."""
    return all([least_rounds(fair, meetings) <= rounds for meetings, rounds in asked])


def _is_part(one, other):
    """Whether all indexes of the one set are in the other one."""
    return all([index in other for index in one])


def helping(fair, changes, asked):
    """All least sets of changes behind which each load that is asked for is small enough."""
    check_fair(fair)
    _check_changes(fair, changes)
    _check_asked(fair, asked)
    least = []
    for chosen in _all_sets(len(changes)):
        # Of a set that does it but is not least, some least one that came before it is a part.
        if not any([_is_part(one, chosen) for one in least]):
            if _does_it(_changed(fair, [changes[index] for index in chosen]), asked):
                least.append(chosen)
    return tuple(least)
