"""What several test files use."""

from spiraldue.market import Market

FULL = ("share", 1000)


def market_of(insurers, events=("storm",)):
    """A market with these insurers and events."""
    market = Market()
    for name in insurers:
        market.add_insurer(name)
    for name in events:
        market.add_event(name)
    return market


def state(market):
    """The attributes of a market, which no later change of the market reaches."""
    return market.insurers, market.events, market.treaties, dict(market.losses)


def caught(test, error, action, *values):
    """The error, of exactly this class, that an action raises."""
    with test.assertRaises(error) as context:
        action(*values)
    test.assertIs(type(context.exception), error)
    return context.exception


def refused(test, market, error, action, *values):
    """The error that a change of a market raises, which must leave the market as it was."""
    before = state(market)
    kept = market.insurers, market.events, market.treaties, market.losses
    found = caught(test, error, action, *values)
    test.assertEqual(state(market), before)
    for old, new in zip(kept, (market.insurers, market.events, market.treaties, market.losses)):
        test.assertIs(new, old)
    return found
