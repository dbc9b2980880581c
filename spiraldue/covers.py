"""Covers, and programmes of them (points 5 and 6)."""

from spiraldue.checks import is_between
from spiraldue.errors import BadCover

WHOLE = 1000
MOST_RETENTION = 100000
MOST_LIMIT = 100000


def is_cover(value):
    """Whether a value is a cover."""
    if not isinstance(value, tuple) or len(value) == 0:
        return False
    word, *numbers = value
    if word == "share":
        return len(numbers) == 1 and is_between(numbers[0], 1, WHOLE)
    if word == "layer":
        return (len(numbers) == 2 and is_between(numbers[0], 0, MOST_RETENTION)
                and is_between(numbers[1], 1, MOST_LIMIT))
    return False


def check_cover(value):
    """Raises BadCover if a value is no cover."""
    if not is_cover(value):
        raise BadCover("a cover is a tuple of share and per mille, or of layer, retention and limit")


def recovery(cover, loss):
    """What a cover pays of a loss."""
    if cover[0] == "share":
        return cover[1] * loss // WHOLE
    _, retention, limit = cover
    return min(max(loss - retention, 0), limit)


def programme(covers, loss):
    """A pair of the tuple of what the covers pay of a loss, in order, and the net loss."""
    paid = []
    rest = loss
    for cover in covers:
        amount = recovery(cover, rest)
        paid.append(amount)
        rest -= amount
    return tuple(paid), rest
