"""Trials: what stands for a `with` statement behind which a hall or a book is what it was before.

Both keep all that changes in one object under `now`, which itself never changes.
"""


class Saved:
    """What was when a block began, and what was saved for a block around it by the same trial."""

    def __init__(self, now, before):
        self.now = now
        self.before = before


class PassingTrial:
    """Puts the place back to what it was when the block began, in whatever way the block ends."""

    def __init__(self, place):
        self.place = place
        self.saved = None

    def __enter__(self):
        self.saved = Saved(self.place.now, self.saved)
        return self.place

    def __exit__(self, kind, value, trace):
        place = self.place
        place.now = self.saved.now
        self.saved = self.saved.before


class LastingTrial:
    """Puts the place back to what it was when the block began only if the block ends with an exception."""

    def __init__(self, place):
        self.place = place
        self.saved = None

    def __enter__(self):
        self.saved = Saved(self.place.now, self.saved)
        return self.place

    def __exit__(self, kind, value, trace):
        place = self.place
        if kind is not None:
            place.now = self.saved.now
        self.saved = self.saved.before
