"""Fairs: hosts and guests with their bounds, and tables at which they meet."""

from meetrounds.errors import InvalidGuests, InvalidHosts, InvalidTables, InvalidText
from meetrounds.limits import MOST_BOUND, MOST_SIDE, MOST_TABLES
from meetrounds.values import is_integer, is_name, is_pair


def _is_member(value):
    """Whether the value is a pair of a name and a bound."""
    return is_pair(value) and is_name(value[0]) and is_integer(value[1], 1, MOST_BOUND)


def _fault(side, taken):
    """What is wrong with the hosts or the guests: (), or a tuple of the one index to tell."""
    if not isinstance(side, tuple) or not side:
        return (None,)
    seen = list(taken)
    for index, member in enumerate(side):
        if index == MOST_SIDE or not _is_member(member) or member[0] in seen:
            return (index,)
        seen.append(member[0])
    return ()


def _names_of(side):
    """The names of hosts or guests, in their order."""
    return tuple([member[0] for member in side])


def _text_of(hosts, guests, tables):
    """The text of the fair that has these."""
    lines = [f"host {name} {bound}" for name, bound in hosts]
    lines.extend([f"guest {name} {bound}" for name, bound in guests])
    if tables is not None:
        lines.append(f"tables {tables}")
    return "\n".join(lines)


def _number(digits, most):
    """The integer from 1 to most that is written with these digits, None if there is none."""
    written = {str(number): number for number in range(1, most + 1)}
    return written.get(digits)


def _parts_of(text):
    """The hosts, guests and tables that a text tells of; they need not be those of any fair."""
    hosts = []
    guests = []
    tables = None
    for line in text.split("\n"):
        kind, _, rest = line.partition(" ")
        name, _, digits = rest.partition(" ")
        if kind == "host":
            hosts.append((name, _number(digits, MOST_BOUND)))
        if kind == "guest":
            guests.append((name, _number(digits, MOST_BOUND)))
        if kind == "tables":
            tables = _number(rest, MOST_TABLES)
    return tuple(hosts), tuple(guests), tables


class Fair:
    """Hosts and guests that are to meet, and tables, or None for as many as are wanted."""

    def __init__(self, hosts, guests, tables=None):
        fault = _fault(hosts, ())
        if fault:
            raise InvalidHosts(fault[0])
        fault = _fault(guests, _names_of(hosts))
        if fault:
            raise InvalidGuests(fault[0])
        if tables is not None and not is_integer(tables, 1, MOST_TABLES):
            raise InvalidTables(tables)
        self._hosts = hosts
        self._guests = guests
        self._tables = tables
        self._names = _names_of(hosts) + _names_of(guests)
        self._text = _text_of(hosts, guests, tables)

    @classmethod
    def read(cls, text):
        """The fair with this text."""
        if not isinstance(text, str):
            raise InvalidText(text)
        hosts, guests, tables = _parts_of(text)
        if _fault(hosts, ()) or _fault(guests, _names_of(hosts)):
            raise InvalidText(text)
        # Taking a text apart passes over what it does not know, so only the comparison settles it.
        if _text_of(hosts, guests, tables) != text:
            raise InvalidText(text)
        return cls(hosts, guests, tables)

    @property
    def hosts(self):
        """The hosts, as they were passed."""
        return self._hosts

    @property
    def guests(self):
        """The guests, as they were passed."""
        return self._guests

    @property
    def tables(self):
        """The tables, None for as many as are wanted."""
        return self._tables

    @property
    def names(self):
        """The names of the hosts and behind them of the guests."""
        return self._names

    def __contains__(self, value):
        # Values of other classes may claim to equal a name.
        return isinstance(value, str) and value in self._names

    def __len__(self):
        return len(self._names)

    def __str__(self):
        return str(self._text)

    def __eq__(self, other):
        return isinstance(other, Fair) and self._text == other._text
