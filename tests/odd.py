"""Values of many kinds, for the places where any value may be passed."""


class EqualToAll:
    """Claims to equal whatever it is compared with."""

    def __eq__(self, other):
        return True

    def __ne__(self, other):
        return False

    __hash__ = None


class Touchy:
    """Bears no question: not whether it equals, is true, is long, contains or is hashed."""

    def _fail(self, *_):
        raise AssertionError("this value was asked something")

    __eq__ = __ne__ = __lt__ = __le__ = __gt__ = __ge__ = _fail
    __bool__ = __len__ = __contains__ = __iter__ = __getitem__ = __hash__ = __int__ = __index__ = _fail


def nested(depth):
    """A tuple with so many tuples around nothing."""
    value = ()
    for _ in range(depth):
        value = (value,)
    return value


GREAT = 10 ** 79

ODD = (
    None, True, False, 0, 1, -1, 5, 13, GREAT, -GREAT, "", "a", "A", " ", "\n", "ann", "host ann 1", "x" * 2000,
    b"", b"a", b"ann", (), ("ann",), ("ann", 1), (("ann", 1),), ((), ()), nested(100), [], ["ann"], [("ann", 1)],
    {}, {"ann": 1}, set(), {"ann"}, frozenset(), range(3), object(), EqualToAll(), Touchy(), int, ValueError("ann"),
    len, lambda: 1, iter(()), ..., NotImplemented, bytearray(b"a"),
)
