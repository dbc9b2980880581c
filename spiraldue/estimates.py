"""What an insurer works out from the notices that it has received (points 17 and 18).

What was received is a dict from triples (recipient, treaty, event) to pairs (sequence, schedule). All is worked out
at the rounds where something changes, since most of the 201 rounds are like the one ahead of them.
"""

from spiraldue.flows import LAST_ROUND, MOST_GROSS, cede, part_of
from spiraldue.schedules import packed

NOTHING = (0, ())


def own_treaties(market, insurer):
    """The numbers of all treaties of an insurer, ended ones included."""
    return [number for number, (cedent, _, _, _) in enumerate(market.treaties) if cedent == insurer]


def assumed_steps(market, received, event, insurer):
    """A dict from rounds to how much more than in the round ahead an insurer assumes there."""
    steps = {}
    for number, (_, _, panel, _) in enumerate(market.treaties):
        _, schedule = received.get((insurer, number, event), NOTHING)
        ahead = 0
        for start, amount in schedule:
            part = part_of(panel, insurer, amount)
            # What a treaty pays in a round is assumed in the round behind it.
            steps[start + 1] = steps.get(start + 1, 0) + part - ahead
            ahead = part
    return steps


def estimated_schedule(market, received, event, insurer):
    """The estimated gross losses of an insurer for an event."""
    steps = assumed_steps(market, received, event, insurer)
    loss = market.losses.get((event, insurer), 0)
    rows = [(0, loss)]
    for number in sorted(steps):
        if number <= LAST_ROUND:
            loss += steps[number]
            rows.append((number, min(loss, MOST_GROSS)))
    return packed(rows)


def current_schedules(market, received, event, insurer):
    """The current schedules of all treaties of an insurer for an event, a dict by their numbers."""
    losses = estimated_schedule(market, received, event, insurer)
    rows = [(start, cede(market.treaties, insurer, loss)[0]) for start, loss in losses]
    return {number: packed([(start, amounts.get(number, 0)) for start, amounts in rows])
            for number in own_treaties(market, insurer)}
