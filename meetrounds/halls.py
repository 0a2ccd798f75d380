"""Halls: rounds are held in them one by one."""

from meetrounds.arguments import check_fair, check_meetings
from meetrounds.errors import InvalidNumber, InvalidRound, NothingToUndo, TooMany
from meetrounds.limits import MOST_MEETINGS
from meetrounds.loads import least_rounds
from meetrounds.schedules import is_round
from meetrounds.tables import difference, is_within, repeated
from meetrounds.trials import PassingTrial
from meetrounds.values import is_integer


class Standing:
    """What a hall has come to: the meetings that remain, the rounds behind it and how many holds are behind it.

    It never changes, so a hall goes back by taking up what was before the last hold again.
    """

    def __init__(self, remaining, rounds, depth, before):
        self.remaining = remaining
        self.rounds = rounds
        self.depth = depth
        self.before = before


class Hall:
    """The meetings of a fair, of which some have been held."""

    def __init__(self, fair, meetings):
        check_fair(fair)
        check_meetings(fair, meetings)
        self._fair = fair
        self._meetings = meetings
        self.now = Standing(meetings, 0, 0, None)

    @property
    def fair(self):
        """The fair whose meetings these are."""
        return self._fair

    @property
    def meetings(self):
        """All meetings, those that have been held included."""
        return self._meetings

    @property
    def left(self):
        """The table of the meetings that have not been held."""
        return self.now.remaining

    @property
    def held(self):
        """How many rounds have been held."""
        return self.now.rounds

    @property
    def changes(self):
        """How many holds can be taken back."""
        return self.now.depth

    def hold(self, table, times=1):
        """Holds so many rounds that are alike."""
        if not is_round(self._fair, table):
            raise InvalidRound(table)
        if not is_integer(times, 1, MOST_MEETINGS):
            raise InvalidNumber(times)
        now = self.now
        taken = repeated(table, times)
        if not is_within(taken, now.remaining):
            raise TooMany(table)
        self.now = Standing(difference(now.remaining, taken), now.rounds + times, now.depth + 1, now)

    def undo(self):
        """Takes back the last hold that has not been taken back."""
        if self.now.before is None:
            raise NothingToUndo()
        self.now = self.now.before

    def load(self):
        """The load of the meetings that have not been held."""
        return least_rounds(self._fair, self.now.remaining)

    def lost(self):
        """How many rounds more there are in the end than the load of all meetings."""
        return self.now.rounds + self.load() - least_rounds(self._fair, self._meetings)

    def trial(self):
        """For a `with` statement: when its block ends, the hall is as it was when the block began."""
        return PassingTrial(self)

    def tried(self, action):
        """What the action returns when it is called with the hall in such a block."""
        with self.trial() as hall:
            return action(hall)
