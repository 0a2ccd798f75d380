"""Claims for the checker and their certificates by the words of promise [16], and values that are nearly some."""

from meetrounds.errors import InvalidText
from meetrounds.fairs import Fair
from odd import GREAT, EqualToAll, Touchy
from plain import (
    are_enough, bounds_by_time, columns_of, in_and_out, is_inside, is_round, is_table, keeps_within, load_of, most_kept,
    most_met, nothing, plus, rows_of, sum_of, urgent_bounds,
)


def is_number(value):
    return type(value) is int and value >= 0


def is_pair(value):
    return type(value) is tuple and len(value) == 2


def fair_of_text(text):
    """The fair with this text, None if there is none."""
    try:
        return Fair.read(text)
    except InvalidText:
        return None


def names_of(side):
    return [name for name, _ in side]


def is_one_of(names, value):
    return type(value) is str and value in names


def are_different(names, value):
    """Whether any value is a tuple of different ones of these names."""
    return type(value) is tuple and all(is_one_of(names, one) for one in value) and len(set(value)) == len(value)


def lot_of(fair, value):
    """The places of a lot as the plain searches name them, None if the value is no lot."""
    places = {"<": "<", ">": ">"}
    places.update({name: ("host", at) for at, name in enumerate(names_of(fair.hosts))})
    places.update({name: ("guest", at) for at, name in enumerate(names_of(fair.guests))})
    return {places[name] for name in value} if are_different(list(places), value) else None


def claim_fair(claim):
    """The fair that a claim is about, None if the value is no claim."""
    forms = {"load": "ti", "kept": "tii", "front": "tiihgi", "late": "titi"}
    if type(claim) is not tuple or len(claim) < 2 or not is_one_of(list(forms), claim[0]):
        return None
    fair = fair_of_text(claim[1])
    form = forms[claim[0]]
    if fair is None or len(claim) != 2 + len(form):
        return None
    checks = {
        "t": lambda value: is_table(fair, value), "i": is_number,
        "h": lambda value: is_one_of(names_of(fair.hosts), value),
        "g": lambda value: is_one_of(names_of(fair.guests), value),
    }
    return fair if all(checks[kind](value) for kind, value in zip(form, claim[2:])) else None


def length_and_meetings(fair, plan):
    """How many rounds a schedule has and what its meetings are, None if the value is no schedule of the fair."""
    if type(plan) is not tuple:
        return None
    length, meetings = 0, nothing(fair)
    for block in plan:
        if not is_pair(block) or not is_table(fair, block[0]) or not is_round(fair, block[0]):
            return None
        if not is_number(block[1]) or block[1] == 0:
            return None
        length += block[1]
        meetings = plus(meetings, tuple(tuple(many * block[1] for many in row) for row in block[0]))
    return length, meetings


def shows_load(fair, certificate, meetings, rounds):
    if not is_pair(certificate) or length_and_meetings(fair, certificate[0]) != (rounds, meetings):
        return False
    reason = certificate[1]
    if reason is None:
        return sum_of(meetings) == 0 == rounds
    if type(reason) is not tuple or any(type(word) is not str for word in reason):
        return False
    needs = {("host", name): -(-many // bound) for (name, bound), many in zip(fair.hosts, rows_of(meetings))}
    for (name, bound), many in zip(fair.guests, columns_of(meetings)):
        needs["guest", name] = -(-many // bound)
    if fair.tables is not None:
        needs["tables",] = -(-sum_of(meetings) // fair.tables)
    return reason in needs and needs[reason] == rounds


def shows_kept(fair, certificate, meetings, rounds, many):
    if not is_pair(certificate):
        return False
    table, cut = certificate
    if not is_table(fair, table) or not is_inside(table, meetings) or sum_of(table) != many:
        return False
    if load_of(fair, table) > rounds:
        return False
    if cut is None:
        return fair.tables is not None and rounds * fair.tables == many
    if not is_pair(cut) or not are_different(names_of(fair.hosts), cut[0]):
        return False
    if not are_different(names_of(fair.guests), cut[1]):
        return False
    past = sum(rounds * bound for name, bound in fair.hosts if name not in cut[0])
    past += sum(rounds * bound for name, bound in fair.guests if name in cut[1])
    for host, row in zip(names_of(fair.hosts), meetings):
        for guest, number in zip(names_of(fair.guests), row):
            past += number if host in cut[0] and guest not in cut[1] else 0
    return past == many


def shows_front(fair, certificate, meetings, rounds, first, host, guest, many):
    if load_of(fair, meetings) > rounds or first > rounds or not is_pair(certificate):
        return False
    table, lot = certificate
    bounds = bounds_by_time(fair, meetings, rounds, first)
    row, column = names_of(fair.hosts).index(host), names_of(fair.guests).index(guest)
    if not is_table(fair, table) or not keeps_within(table, bounds) or table[row][column] != many:
        return False
    if lot is None:
        return many == meetings[row][column]
    places = lot_of(fair, lot)
    if places is None or ("guest", column) not in places or ("host", row) in places:
        return False
    del bounds[row, column]
    into, out = in_and_out(bounds, places)
    return out - into == many


def shows_late(fair, certificate, meetings, rounds, urgent, first):
    if load_of(fair, meetings) > rounds or first > rounds or not is_inside(urgent, meetings):
        return False
    places = lot_of(fair, certificate)
    if places is None:
        return False
    into, out = in_and_out(urgent_bounds(fair, meetings, rounds, first, urgent), places)
    return into > out


def is_shown(claim, certificate):
    """Whether the one is a claim and the other one a certificate for it."""
    fair = claim_fair(claim)
    if fair is None:
        return False
    shows = {"load": shows_load, "kept": shows_kept, "front": shows_front, "late": shows_late}[claim[0]]
    return shows(fair, certificate, *claim[2:])


def is_true(claim):
    """Whether what a claim tells is so."""
    fair = claim_fair(claim)
    kind, _, meetings, rounds, *rest = claim
    if kind == "load":
        return load_of(fair, meetings) == rounds
    if kind == "kept":
        return most_kept(fair, meetings, rounds) == rest[0]
    if load_of(fair, meetings) > rounds:
        return False
    if kind == "front":
        first, host, guest, many = rest
        return first <= rounds and most_met(fair, meetings, rounds, first, host, guest) == many
    urgent, first = rest
    return first <= rounds and is_inside(urgent, meetings) and not are_enough(fair, meetings, rounds, urgent, first)


def other_texts(text):
    """Texts of fairs that are nearly this one, and some that are those of none."""
    lines = text.split("\n")
    for at, line in enumerate(lines):
        for digit in "1234":
            yield "\n".join([*lines[:at], line[:-1] + digit, *lines[at + 1:]])
        yield "\n".join([*lines[:at], *lines[at + 1:]])
        yield "\n".join([*lines[:at], line + " ", *lines[at + 1:]])
    yield text + "\ntables 12"
    yield text + "\n"


def changed(value):
    """Values with a part of this one changed."""
    if type(value) is int:
        yield from (value + 1, value - 1, value + 10 ** 30, 0, -value, GREAT, str(value), (value,), None, bool(value))
    elif type(value) is str and "\n" in value:
        yield from other_texts(value)
        yield from (value.encode(), (value,), Fair.read(value))
    elif type(value) is str:
        yield from ("ann", "bob", "a", "b", "w", "x", "y", "<", ">", "host", "guest", "tables", "load", "kept", "late")
        yield from ("front", "", value + "x", value.encode(), (value,), EqualToAll(), Touchy())
    elif type(value) is tuple:
        for at, part in enumerate(value):
            for other in changed(part):
                yield (*value[:at], other, *value[at + 1:])
            yield (*value[:at], *value[at + 1:])
            yield (*value[:at], part, *value[at:])
            yield (*value[:at], value[at - 1], *value[at + 1:])
        yield from (value[::-1], list(value), (value,), (*value, None), (*value, "<"), (*value, ">"), None, ())
    else:
        yield from ((), ("tables",), ((), ()), 0, False, EqualToAll(), Touchy())
