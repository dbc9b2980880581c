"""What treaties pay, who assumes it, and the rounds of this (points 8 and 9).

The functions take the insurers, treaties and direct losses themselves instead of a
market, so that a change can be tried out before a market takes it.
"""

from spiraldue.allocation import allocate
from spiraldue.covers import programme
from spiraldue.errors import NoEnd

LAST_ROUND = 200
MOST_GROSS = 1000000000


def active_covers(treaties, cedent):
    """The pairs of number and cover of the treaties of a cedent that have not been ended, in order."""
    return [(number, cover) for number, (owner, cover, _, ended) in enumerate(treaties)
            if owner == cedent and not ended]


def cede(treaties, cedent, loss):
    """A pair of what each treaty of a cedent pays, a dict by their numbers, and the net loss.

    Treaties that were ended are not in the dict.
    """
    covers = active_covers(treaties, cedent)
    amounts, net = programme([cover for _, cover in covers], loss)
    return {number: amount for (number, _), amount in zip(covers, amounts)}, net


def treaty_payments(insurers, treaties, gross):
    """The tuple of what each treaty pays for some gross losses, 0 if it was ended."""
    paid = [0] * len(treaties)
    for cedent, loss in zip(insurers, gross):
        amounts, _ = cede(treaties, cedent, loss)
        for number, amount in amounts.items():
            paid[number] = amount
    return tuple(paid)


def panel_parts(panel, amount):
    """The parts of the participations of a panel in what a treaty pays."""
    return allocate(amount, [shares for _, shares in panel])


def part_of(panel, name, amount):
    """The part of one participant in what a treaty pays, 0 if it does not stand in the panel."""
    parts = panel_parts(panel, amount)
    return sum([part for (participant, _), part in zip(panel, parts) if participant == name])


def next_gross(insurers, treaties, direct, gross):
    """The gross losses of the round behind some gross losses."""
    losses = {insurer: loss for insurer, loss in zip(insurers, direct)}
    paid = treaty_payments(insurers, treaties, gross)
    for (cedent, cover, panel, ended), amount in zip(treaties, paid):
        for (participant, _), part in zip(panel, panel_parts(panel, amount)):
            if participant is not None:
                losses[participant] += part
    return tuple([losses[insurer] for insurer in insurers])


def rounds_to_end(insurers, treaties, direct):
    """The tuple of the rounds from 0 to the fixed one; raises NoEnd if they do not come to an end."""
    rows = [direct]
    for _ in range(LAST_ROUND + 1):
        behind = next_gross(insurers, treaties, direct, rows[-1])
        if behind == rows[-1]:
            if any([loss > MOST_GROSS for loss in behind]):
                raise NoEnd("a gross loss exceeds 1000000000")
            return tuple(rows)
        rows.append(behind)
    raise NoEnd("none of the rounds 0 to 200 is the fixed one")
