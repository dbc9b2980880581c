"""What values must be like: numbers, names, treaties and panels (points 2 and 7)."""

from spiraldue.errors import BadName, BadPanel, NoSuchName, NoSuchTreaty

LETTERS = "abcdefghijklmnopqrstuvwxyz"
MOST_LETTERS = 12
MOST_ENTRIES = 6
MOST_SHARES = 100


def is_between(value, low, high):
    """Whether a value is an integer from low to high."""
    # To Python True and False are integers, to the document they are not.
    if isinstance(value, bool) or not isinstance(value, int):
        return False
    return low <= value <= high


def is_name(value):
    """Whether a value is a name."""
    if not isinstance(value, str) or not 1 <= len(value) <= MOST_LETTERS:
        return False
    return all([letter in LETTERS for letter in value])


def check_name(value):
    """Raises BadName if a value is no name."""
    if not is_name(value):
        raise BadName("a name is a text of 1 to 12 letters a to z")


def check_known(name, names):
    """Raises NoSuchName if a name is none of some names."""
    if name not in names:
        raise NoSuchName(name)


def check_names(market, event, insurer):
    """Raises NoSuchName for an event that a market does not have, then for an insurer."""
    check_known(event, market.events)
    check_known(insurer, market.insurers)


def check_treaty(number, treaties):
    """Raises NoSuchTreaty if a number is none of some treaties."""
    if not is_between(number, 0, len(treaties) - 1):
        raise NoSuchTreaty(number)


def is_entry(value):
    """Whether a value is a participation: a pair that may stand in a panel."""
    if not isinstance(value, tuple) or len(value) != 2:
        return False
    participant, shares = value
    if participant is not None and not is_name(participant):
        return False
    return is_between(shares, 1, MOST_SHARES)


def is_panel(value):
    """Whether a value is a panel, whoever stands in it."""
    if not isinstance(value, tuple) or not 1 <= len(value) <= MOST_ENTRIES:
        return False
    if not all([is_entry(entry) for entry in value]):
        return False
    return sum([shares for _, shares in value]) <= MOST_SHARES


def check_panel(value):
    """Raises BadPanel if a value is no panel."""
    if not is_panel(value):
        raise BadPanel("a panel is a tuple of 1 to 6 pairs (name or None, shares), at most 100 shares together")
