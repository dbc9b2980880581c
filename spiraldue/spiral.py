"""What comes in the end: rounds, positions and the way of one unit more (points 9 and 11 to 13)."""

from spiraldue.allocation import next_unit
from spiraldue.checks import check_names
from spiraldue.flows import cede, next_gross, part_of, rounds_to_end, treaty_payments


def next_round(market, event, gross):
    """The gross losses of the round behind some gross losses."""
    return next_gross(market.insurers, market.treaties, market.direct(event), gross)


def rounds(market, event):
    """The tuple of the rounds of an event from 0 to the fixed one."""
    return rounds_to_end(market.insurers, market.treaties, market.direct(event))


def settled(market, event):
    """The gross losses of the fixed round of an event."""
    return rounds(market, event)[-1]


def positions_at(market, event, gross):
    """The tuple of (insurer, direct, assumed, ceded, net) that follow from some gross losses."""
    rows = []
    for insurer, direct, loss in zip(market.insurers, market.direct(event), gross):
        _, net = cede(market.treaties, insurer, loss)
        rows.append((insurer, direct, loss - direct, loss - net, net))
    return tuple(rows)


def positions(market, event):
    """The tuple of (insurer, direct, assumed, ceded, net) at the fixed round."""
    return positions_at(market, event, settled(market, event))


def external_losses(market, event):
    """The tuple of what the external participants of each treaty bear at the fixed round."""
    paid = treaty_payments(market.insurers, market.treaties, settled(market, event))
    return tuple([part_of(panel, None, amount) for (_, _, panel, _), amount in zip(market.treaties, paid)])


def check_unit_ends(market, event, insurer):
    """Raises NoEnd if the rounds with one unit more of direct loss of an insurer do not come to an end."""
    direct = [loss + 1 if name == insurer else loss for name, loss in zip(market.insurers, market.direct(event))]
    rounds_to_end(market.insurers, market.treaties, tuple(direct))


def next_step(treaties, insurer, loss):
    """A pair of the treaty to which the unit behind a loss goes, and the participant that it passes to.

    None if no treaty pays it.
    """
    ahead, _ = cede(treaties, insurer, loss)
    behind, _ = cede(treaties, insurer, loss + 1)
    for number, amount in ahead.items():
        if behind[number] > amount:
            panel = treaties[number][2]
            index = next_unit(amount, [shares for _, shares in panel])
            return number, panel[index][0]
    return None


def path(market, event, insurer):
    """A pair of the tuple of the pairs (insurer, treaty) that one unit more passes, and its bearer."""
    check_names(market, event, insurer)
    # Without this the walk below might never stop: rounds that come to an end bound its length.
    check_unit_ends(market, event, insurer)
    reached = {name: loss for name, loss in zip(market.insurers, settled(market, event))}
    passed = []
    holder = insurer
    while holder is not None:
        step = next_step(market.treaties, holder, reached[holder])
        if step is None:
            return tuple(passed), ("insurer", holder)
        number, participant = step
        passed.append((holder, number))
        reached[holder] += 1
        holder = participant
    return tuple(passed), ("external", passed[-1][1])


def bearer(market, event, insurer):
    """Who bears one unit more of direct loss of an insurer."""
    return path(market, event, insurer)[1]
