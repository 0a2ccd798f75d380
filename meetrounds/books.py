"""Books: fairs under names, and wishes about them that hold after each change."""

from meetrounds.arguments import check_fair
from meetrounds.errors import Broken, InvalidIndex, InvalidName, InvalidWish, NothingToUndo, UnknownName
from meetrounds.trials import LastingTrial
from meetrounds.values import is_integer, is_name
from meetrounds.wishes import holds, is_wish


class Page:
    """What a book has come to: its fairs by their names, its wishes and how many changes are behind it.

    It never changes, so a book goes back by taking up what was before the last change again.
    """

    def __init__(self, placed, wanted, depth, before):
        self.placed = placed
        self.wanted = wanted
        self.depth = depth
        self.before = before


def _check_holding(placed, wanted):
    """Broken with the first of the wishes that does not hold for these fairs, if one does not."""
    for index, wish in enumerate(wanted):
        if not holds(placed[wish[1]], wish):
            raise Broken(index)


class Book:
    """Fairs under names, and wishes in an order."""

    def __init__(self):
        self.now = Page({}, (), 0, None)

    def _turn(self, placed, wanted):
        """Makes a change: these are the fairs and the wishes now."""
        now = self.now
        self.now = Page(placed, wanted, now.depth + 1, now)

    def _has(self, value):
        """Whether any value is one of the names."""
        return isinstance(value, str) and value in self.now.placed

    def __setitem__(self, at, worth):
        if not is_name(at):
            raise InvalidName(at)
        check_fair(worth)
        placed = dict(self.now.placed)
        placed[at] = worth
        _check_holding(placed, self.now.wanted)
        self._turn(placed, self.now.wanted)

    def __getitem__(self, at):
        if not self._has(at):
            raise UnknownName(at)
        return self.now.placed[at]

    def __iter__(self):
        raise TypeError("a book is not iterated over")

    def __contains__(self, x):
        return self._has(x)

    def __len__(self):
        return len(self.now.placed)

    def __bool__(self):
        # An empty book is true, too.
        return True

    @property
    def names(self):
        """The names under which there are fairs, ascending."""
        return tuple(sorted(list(self.now.placed)))

    @property
    def wishes(self):
        """The wishes, as they were passed."""
        return self.now.wanted

    @property
    def changes(self):
        """How many changes can be taken back."""
        return self.now.depth

    def wish(self, wish):
        """Makes a wish more, behind the others."""
        if not is_wish(wish):
            raise InvalidWish(wish)
        if not self._has(wish[1]):
            raise UnknownName(wish[1])
        wanted = self.now.wanted + (wish,)
        _check_holding(self.now.placed, wanted)
        self._turn(self.now.placed, wanted)

    def lift(self, index):
        """Takes the wish with this index away."""
        wanted = self.now.wanted
        if not is_integer(index, 0, len(wanted) - 1):
            raise InvalidIndex(index)
        self._turn(self.now.placed, wanted[:index] + wanted[index + 1:])

    def undo(self):
        """Takes back the last change that has not been taken back."""
        if self.now.before is None:
            raise NothingToUndo()
        self.now = self.now.before

    def trial(self):
        """For a `with` statement: if its block ends with an exception, the book is as it was when the block began."""
        return LastingTrial(self)

    def tried(self, action):
        """What the action returns when it is called with the book in such a block."""
        with self.trial() as book:
            return action(book)
