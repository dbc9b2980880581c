"""Points 7 and 10: what a market holds, and what its methods return."""

import unittest

from spiraldue.errors import NoSuchName
from spiraldue.market import Market
from tests.helper import FULL, caught, market_of, state

LAYER = ("layer", 10, 20)


def filled():
    """A market with something of everything."""
    market = market_of(("a", "b", "c"), ("storm", "flood"))
    market.add_treaty("a", LAYER, (("b", 1), (None, 1)))
    market.add_treaty("b", ("share", 500), (("c", 2),))
    market.terminate(0)
    market.set_loss("storm", "b", 40)
    return market


class NewMarketTest(unittest.TestCase):
    def test_attributes_of_a_new_market(self):
        self.assertEqual(state(Market()), ((), (), (), {}))
        self.assertEqual(set(vars(Market())), {"insurers", "events", "treaties", "losses"})

    def test_markets_share_nothing(self):
        first, second = Market(), Market()
        first.add_insurer("a")
        first.add_event("storm")
        first.set_loss("storm", "a", 5)
        self.assertEqual(state(second), ((), (), (), {}))


class AddingTest(unittest.TestCase):
    def test_insurers_and_events_in_order(self):
        market = Market()
        self.assertEqual([market.add_insurer(name) for name in ("b", "a", "c")], [1, 2, 3])
        self.assertEqual([market.add_event(name) for name in ("storm", "flood")], [1, 2])
        self.assertEqual(state(market), (("b", "a", "c"), ("storm", "flood"), (), {}))

    def test_names_at_their_limits(self):
        market = Market()
        for name in ("a", "z", "abcdefghijkl", "mnopqrstuvwx"):
            market.add_insurer(name)
        market.add_event("yzyzyzyzyzyz")
        self.assertEqual(market.insurers, ("a", "z", "abcdefghijkl", "mnopqrstuvwx"))
        self.assertEqual(market.events, ("yzyzyzyzyzyz",))

    def test_an_insurer_and_an_event_of_the_same_name(self):
        market = market_of(("storm", "flood"), ("storm",))
        self.assertEqual(market.add_event("flood"), 2)
        self.assertEqual(market.add_insurer("quake"), 3)
        self.assertEqual(market.add_event("quake"), 3)
        market.set_loss("storm", "storm", 4)
        market.set_loss("flood", "storm", 5)
        self.assertEqual((market.direct("storm"), market.direct("flood")), ((4, 0, 0), (5, 0, 0)))

    def test_as_many_as_there_may_be(self):
        market = Market()
        self.assertEqual([market.add_insurer(name) for name in "abcdef"], [1, 2, 3, 4, 5, 6])
        self.assertEqual([market.add_event(name) for name in "xyz"], [1, 2, 3])
        found = [market.add_treaty("a", ("share", 1), (("b", 1),)) for _ in range(16)]
        self.assertEqual(found, list(range(16)))
        self.assertEqual(len(market.treaties), 16)


class TreatiesTest(unittest.TestCase):
    def test_treaties_are_numbered_and_kept(self):
        market = market_of(("a", "b", "c"))
        self.assertEqual(market.add_treaty("a", LAYER, (("b", 1), (None, 2))), 0)
        self.assertEqual(market.add_treaty("c", FULL, ((None, 100),)), 1)
        self.assertEqual(market.treaties, (("a", LAYER, (("b", 1), (None, 2)), False),
                                           ("c", FULL, ((None, 100),), False)))

    def test_ending_a_treaty(self):
        market = market_of(("a", "b"))
        for _ in range(3):
            market.add_treaty("a", LAYER, (("b", 1),))
        self.assertIsNone(market.terminate(1))
        self.assertEqual([row[3] for row in market.treaties], [False, True, False])
        market.terminate(0)
        market.terminate(2)
        self.assertEqual(market.treaties, (("a", LAYER, (("b", 1),), True),) * 3)
        self.assertIs(market.treaties[0][3], True)
        self.assertEqual(market.add_treaty("b", FULL, (("a", 1),)), 3)

    def test_ended_treaties_count_towards_the_most(self):
        market = market_of(("a", "b"))
        for _ in range(15):
            market.terminate(market.add_treaty("a", LAYER, (("b", 1),)))
        self.assertEqual(market.add_treaty("a", LAYER, (("b", 1),)), 15)

    def test_panels_at_their_limits(self):
        market = market_of("abcdef")
        panel = (("b", 1), ("c", 1), ("d", 1), ("e", 1), ("f", 1), (None, 1))
        wide = (("b", 50), (None, 49), ("c", 1))
        for entries in (panel, wide, (("b", 100),), ((None, 1),), ((None, 100),), (("b", 99), ("c", 1))):
            market.add_treaty("a", LAYER, entries)
            self.assertEqual(market.treaties[-1], ("a", LAYER, entries, False))

    def test_covers_at_their_limits(self):
        market = market_of(("a", "b"))
        for cover in (("share", 1), ("share", 1000), ("layer", 0, 1), ("layer", 100000, 100000)):
            market.add_treaty("a", cover, (("b", 1),))
            self.assertEqual(market.treaties[-1][1], cover)


class LossesTest(unittest.TestCase):
    def test_losses_are_0_at_first(self):
        market = market_of(("a", "b"), ("storm", "flood"))
        self.assertEqual((market.direct("storm"), market.direct("flood"), market.losses), ((0, 0), (0, 0), {}))

    def test_losses_that_were_set(self):
        market = market_of(("a", "b"), ("storm", "flood"))
        self.assertIsNone(market.set_loss("storm", "b", 100000))
        market.set_loss("flood", "a", 7)
        self.assertEqual(market.losses, {("storm", "b"): 100000, ("flood", "a"): 7})
        self.assertEqual((market.direct("storm"), market.direct("flood")), ((0, 100000), (7, 0)))
        market.set_loss("storm", "b", 1)
        market.set_loss("flood", "a", 0)
        self.assertEqual(market.losses, {("storm", "b"): 1, ("flood", "a"): 0})
        self.assertEqual((market.direct("storm"), market.direct("flood")), ((0, 1), (0, 0)))

    def test_an_insurer_added_later_has_none(self):
        market = market_of(("a",))
        market.set_loss("storm", "a", 3)
        market.add_insurer("b")
        self.assertEqual(market.direct("storm"), (3, 0))

    def test_direct_without_insurers(self):
        self.assertEqual(market_of(()).direct("storm"), ())

    def test_direct_of_no_event(self):
        market = market_of(("a",))
        for name in ("flood", "a", "", "Storm"):
            self.assertEqual(caught(self, NoSuchName, market.direct, name).name, name)


class ReplacedTest(unittest.TestCase):
    def check(self, market, field, action, *values):
        kept = getattr(market, field)
        before = kept.copy() if field == "losses" else kept
        action(*values)
        self.assertEqual(kept, before)
        self.assertIsNot(getattr(market, field), kept)
        self.assertNotEqual(getattr(market, field), kept)

    def test_each_change_replaces_what_it_changes(self):
        market = filled()
        self.check(market, "insurers", market.add_insurer, "d")
        self.check(market, "events", market.add_event, "quake")
        self.check(market, "treaties", market.add_treaty, "c", LAYER, (("a", 1),))
        self.check(market, "treaties", market.terminate, 1)
        self.check(market, "losses", market.set_loss, "flood", "a", 9)
        self.check(market, "losses", market.set_loss, "flood", "a", 10)

    def test_kept_attributes_can_be_assigned_again(self):
        market = filled()
        before = state(market)
        kept = market.insurers, market.events, market.treaties, market.losses
        market.add_insurer("d")
        market.add_event("quake")
        market.add_treaty("d", FULL, (("a", 1),))
        market.terminate(1)
        market.set_loss("quake", "d", 9)
        market.insurers, market.events, market.treaties, market.losses = kept
        self.assertEqual(state(market), before)
        self.assertEqual(market.direct("storm"), (0, 40, 0))
        self.assertEqual(market.add_treaty("a", FULL, (("b", 1),)), 2)


class CopyTest(unittest.TestCase):
    def change(self, market):
        market.add_insurer("d")
        market.add_event("quake")
        market.add_treaty("c", LAYER, (("d", 1),))
        market.terminate(1)
        market.set_loss("storm", "b", 41)
        market.set_loss("quake", "d", 1)

    def test_a_copy_is_the_same(self):
        market = filled()
        other = market.copy()
        self.assertIs(type(other), Market)
        self.assertIsNot(other, market)
        self.assertEqual(state(other), state(market))
        self.assertIsNot(other.losses, market.losses)

    def test_a_changed_copy_leaves_the_market(self):
        market = filled()
        before = state(market)
        self.change(market.copy())
        self.assertEqual(state(market), before)

    def test_a_changed_market_leaves_the_copy(self):
        market = filled()
        before = state(market)
        other = market.copy()
        self.change(market)
        self.assertEqual(state(other), before)
        self.assertEqual(other.direct("storm"), (0, 40, 0))
