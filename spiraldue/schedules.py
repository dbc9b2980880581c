"""Schedules: an amount for each of the rounds 0 to 200 (point 14)."""

from spiraldue.flows import LAST_ROUND


def packed(rows):
    """The schedule that pairs (round, amount) tell, ascending by rounds, of which some may change nothing."""
    pairs = []
    ahead = 0
    for number, amount in rows:
        if amount != ahead:
            pairs.append((number, amount))
            ahead = amount
    return tuple(pairs)


def schedule_of(amounts):
    """The schedule of 201 amounts."""
    return packed(list(enumerate(amounts)))


def amount_at(schedule, number):
    """The amount that a schedule tells for the round of this number."""
    found = 0
    for start, amount in schedule:
        if start > number:
            return found
        found = amount
    return found


def amounts_of(schedule):
    """The tuple of the 201 amounts of a schedule."""
    return tuple([amount_at(schedule, number) for number in range(LAST_ROUND + 1)])
