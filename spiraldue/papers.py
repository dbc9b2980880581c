"""Papers and their judges: what is the least settled state, and who bears one unit more (points 25 to 27)."""

from spiraldue.checks import check_known, is_between
from spiraldue.errors import NoEnd
from spiraldue.flows import MOST_GROSS
from spiraldue.spiral import next_round, path, rounds


def is_state(market, value):
    """Whether a value is a state of an event of a market."""
    if not isinstance(value, tuple) or len(value) != len(market.insurers):
        return False
    return all([is_between(loss, 0, MOST_GROSS) for loss in value])


def is_same(value, wanted):
    """Whether a value is the wanted tuple, text or integer, also in its kind."""
    # By == alone True would pass for 1.
    if isinstance(wanted, tuple):
        if not isinstance(value, tuple) or len(value) != len(wanted):
            return False
        return all([is_same(part, other) for part, other in zip(value, wanted)])
    if isinstance(wanted, str):
        return isinstance(value, str) and value == wanted
    return is_between(value, wanted, wanted)


def shows_rounds(market, event, state, rows):
    """Whether rows are the rounds of an event and end with a state."""
    if not isinstance(rows, tuple) or len(rows) == 0 or not all([is_state(market, row) for row in rows]):
        return False
    if rows[0] != market.direct(event) or rows[-1] != state:
        return False
    return rows[1:] + (state,) == tuple([next_round(market, event, row) for row in rows])


def shows_lower(market, event, state, other):
    """Whether another state settles and is somewhere less than a state."""
    if not is_state(market, other):
        return False
    behind = next_round(market, event, other)
    if any([loss < needed for loss, needed in zip(other, behind)]):
        return False
    return any([less < loss for less, loss in zip(other, state)])


def shows_open(market, event, state, name):
    """Whether a state has less for the insurer of this name than its next round."""
    if not isinstance(name, str) or name not in market.insurers:
        return False
    index = market.insurers.index(name)
    return state[index] < next_round(market, event, state)[index]


def judge_least(market, event, state, paper):
    """Whether a paper is taken on whether a state is the least settled one of an event."""
    check_known(event, market.events)
    if not is_state(market, state) or not isinstance(paper, tuple) or len(paper) != 2:
        return False
    word, told = paper
    if not isinstance(word, str):
        return False
    if word == "rounds":
        return shows_rounds(market, event, state, told)
    if word == "lower":
        return shows_lower(market, event, state, told)
    return word == "open" and shows_open(market, event, state, told)


def explain_least(market, event, state):
    """A paper that is taken on whether a state is the least settled one of an event."""
    rows = rounds(market, event)
    if state == rows[-1]:
        return "rounds", rows
    if any([loss > least for loss, least in zip(state, rows[-1])]):
        return "lower", rows[-1]
    # A state that settles is nowhere less than the fixed round, so this one, which is, does not settle.
    behind = next_round(market, event, state)
    names = [name for name, loss, needed in zip(market.insurers, state, behind) if loss < needed]
    return "open", names[0]


def judge_unit(market, event, insurer, paper):
    """Whether a paper is taken on one unit more of direct loss of an insurer."""
    try:
        wanted = explain_unit(market, event, insurer)
    except NoEnd:
        return False
    return is_same(paper, wanted)


def explain_unit(market, event, insurer):
    """The paper that is taken on one unit more of direct loss of an insurer."""
    passed, end = path(market, event, insurer)
    return "unit", passed, end
