"""Urgent meetings: how many first rounds are enough for them."""

from meetrounds.arguments import check_planned, check_urgent
from meetrounds.bounds import some_table, urgent_bounds
from meetrounds.loads import check_enough, least_rounds
from meetrounds.tables import sum_of


def urgent_front(fair, meetings, rounds, urgent, first):
    """Any table that so many first rounds can have with urgent within it; None if these are not enough."""
    return some_table(fair, urgent_bounds(fair, meetings, rounds, first, urgent))


def least_first(fair, meetings, rounds, urgent):
    """The least number of first rounds that are enough, if the load is at most the rounds."""
    least = least_rounds(fair, urgent)
    # In any schedule a round for each urgent meeting, all of them put first, is enough.
    enough = min(rounds, sum_of(urgent))
    while least < enough:
        middle = (least + enough) // 2
        if urgent_front(fair, meetings, rounds, urgent, middle) is None:
            least = middle + 1
        else:
            enough = middle
    return enough


def _check(fair, meetings, rounds, urgent):
    """The errors of these four arguments, in this order."""
    check_planned(fair, meetings, rounds)
    check_urgent(fair, meetings, urgent)
    check_enough(fair, meetings, rounds)


def first_rounds(fair, meetings, rounds, urgent):
    """The least number of first rounds that are enough for the urgent meetings."""
    _check(fair, meetings, rounds, urgent)
    return least_first(fair, meetings, rounds, urgent)


def front(fair, meetings, rounds, urgent):
    """Any table that so many first rounds can have, with the urgent meetings within it."""
    _check(fair, meetings, rounds, urgent)
    first = least_first(fair, meetings, rounds, urgent)
    return urgent_front(fair, meetings, rounds, urgent, first)
