"""Point 13: the way of one unit more, and its bearer."""

import unittest
from functools import cache

from spiraldue.errors import NoEnd, NoSuchName
from spiraldue.spiral import bearer, external_losses, path, positions, settled
from tests.helper import (FULL, OUT, TO_A, TO_B, caught, example, market_of, plain_way, random_market, ring, state,
                          web)


@cache
def ways():
    """Triples of a market, an event and an insurer, of many kinds."""
    found = [example(), web(), ring(100, 1), ring(99), ring(100)]
    found += [random_market(seed) for seed in range(80)]
    return [(market, event, name) for market in found for event in market.events for name in market.insurers]


def raised(market, event, insurer):
    """The market with one unit more of direct loss."""
    other = market.copy()
    other.set_loss(event, insurer, market.losses.get((event, insurer), 0) + 1)
    return other


class WayTest(unittest.TestCase):
    def test_example(self):
        self.assertEqual(path(example(), "storm", "a"), ((("a", 0), ("b", 1), ("a", 0), ("b", 1)), ("external", 1)))
        self.assertEqual(path(example(), "storm", "b"), ((("b", 1), ("a", 0), ("b", 1)), ("external", 1)))
        self.assertEqual(bearer(example(), "storm", "a"), ("external", 1))

    def test_the_insurer_itself_bears_it(self):
        market = market_of(("a", "b"))
        self.assertEqual(path(market, "storm", "b"), ((), ("insurer", "b")))
        self.assertEqual(bearer(market, "storm", "b"), ("insurer", "b"))
        market.add_treaty("a", ("layer", 5, 3), TO_B)
        for loss, way in ((4, ()), (5, (("a", 0),)), (7, (("a", 0),)), (8, ())):
            market.set_loss("storm", "a", loss)
            self.assertEqual(path(market, "storm", "a"), (way, ("insurer", "b" if way else "a")))

    def test_the_cover_that_pays_one_more(self):
        market = market_of(("a", "b"))
        market.add_treaty("a", ("share", 500), TO_B)
        market.add_treaty("a", ("layer", 1, 1), OUT)
        found = []
        for loss in range(5):
            market.set_loss("storm", "a", loss)
            found.append(path(market, "storm", "a"))
        kept, first, second = ((), ("insurer", "a")), ((("a", 0),), ("insurer", "b")), ((("a", 1),), ("external", 1))
        self.assertEqual(found, [kept, first, second, first, kept])

    def test_the_participant_of_the_next_unit(self):
        market = market_of(("a", "b", "c"))
        market.add_treaty("a", FULL, (("c", 2), (None, 1), ("b", 1)))
        found = []
        for loss in range(5):
            market.set_loss("storm", "a", loss)
            found.append(bearer(market, "storm", "a"))
        self.assertEqual(found, [("insurer", "c"), ("insurer", "c"), ("external", 0), ("insurer", "b"),
                                 ("insurer", "c")])

    def test_ended_treaties_are_passed_over(self):
        market = market_of(("a", "b"))
        market.add_treaty("a", FULL, OUT)
        market.add_treaty("a", FULL, TO_B)
        self.assertEqual(path(market, "storm", "a"), ((("a", 0),), ("external", 0)))
        market.terminate(0)
        self.assertEqual(path(market, "storm", "a"), ((("a", 1),), ("insurer", "b")))

    def test_each_event_has_its_own(self):
        market = market_of(("a", "b"), ("storm", "flood"))
        market.add_treaty("a", ("layer", 5, 3), TO_B)
        market.set_loss("flood", "a", 5)
        self.assertEqual((bearer(market, "storm", "a"), bearer(market, "flood", "a")),
                         (("insurer", "a"), ("insurer", "b")))

    def test_round_and_round(self):
        self.assertEqual(path(ring(100), "storm", "a"), ((("a", 0), ("b", 1)) * 100, ("insurer", "a")))
        self.assertEqual(path(ring(99), "storm", "b"), ((("b", 1), ("a", 0)) * 99 + (("b", 1),), ("insurer", "a")))

    def test_unit_by_unit(self):
        for market, event, name in ways():
            try:
                found = path(market, event, name)
            except NoEnd:
                continue
            self.assertEqual(found, plain_way(market, event, name))
            self.assertEqual(bearer(market, event, name), found[1])
            self.assertIsInstance(found[0], tuple)


class OneUnitMoreTest(unittest.TestCase):
    def test_gross_losses_rise_by_the_times_that_the_unit_reaches_them(self):
        seen = 0
        for market, event, name in ways():
            try:
                other = raised(market, event, name)
            except NoEnd:
                caught(self, NoEnd, path, market, event, name)
                continue
            passed, end = path(market, event, name)
            reached = [insurer for insurer, _ in passed] + ([end[1]] if end[0] == "insurer" else [])
            self.assertEqual(reached[:1], [name])
            wanted = [loss + reached.count(insurer)
                      for insurer, loss in zip(market.insurers, settled(market, event))]
            self.assertEqual(settled(other, event), tuple(wanted))
            seen += len(passed) > 3
        self.assertGreater(seen, 20)

    def test_nobody_but_the_bearer_bears_more(self):
        ends = []
        for market, event, name in ways():
            try:
                other = raised(market, event, name)
            except NoEnd:
                continue
            end = bearer(market, event, name)
            ends.append(end[0])
            nets = {("insurer", row[0]): row[4] for row in positions(market, event)}
            nets.update({("external", number): loss for number, loss in enumerate(external_losses(market, event))})
            behind = {("insurer", row[0]): row[4] for row in positions(other, event)}
            behind.update({("external", number): loss for number, loss in enumerate(external_losses(other, event))})
            nets[end] += 1
            self.assertEqual(behind, nets)
        self.assertGreater(min(ends.count("insurer"), ends.count("external")), 20)


class NoEndTest(unittest.TestCase):
    def check(self, market, insurer):
        before = state(market)
        caught(self, NoEnd, path, market, "storm", insurer)
        caught(self, NoEnd, bearer, market, "storm", insurer)
        self.assertEqual(state(market), before)

    def test_a_way_without_end(self):
        market = market_of(("a", "b", "c"))
        market.add_treaty("a", FULL, TO_B)
        market.add_treaty("b", FULL, TO_A)
        market.add_treaty("c", ("layer", 1, 5), TO_A)
        self.check(market, "a")
        self.check(market, "b")
        self.assertEqual(path(market, "storm", "c"), ((), ("insurer", "c")))
        market.set_loss("storm", "c", 1)
        self.check(market, "c")

    def test_a_way_that_takes_too_many_rounds(self):
        self.assertEqual(len(path(ring(100), "storm", "a")[0]), 200)
        self.assertEqual(len(path(ring(99), "storm", "b")[0]), 199)
        self.check(ring(101), "a")
        self.check(ring(100), "b")

    def test_beyond_100000(self):
        market = market_of(("a", "b"))
        market.add_treaty("a", ("layer", 99999, 50), TO_B)
        market.set_loss("storm", "a", 100000)
        self.assertEqual(path(market, "storm", "a"), ((("a", 0),), ("insurer", "b")))
        market = market_of(("a", "b"))
        market.add_treaty("a", ("layer", 100000, 100000), TO_B)
        market.add_treaty("b", FULL, TO_A)
        market.set_loss("storm", "a", 100000)
        self.check(market, "a")

    def test_just_1000000000_and_one_more(self):
        market = market_of(("a", "b"))
        market.losses = {("storm", "a"): 10 ** 9 - 1}
        self.assertEqual(path(market, "storm", "a"), ((), ("insurer", "a")))
        market.losses = {("storm", "a"): 10 ** 9}
        self.check(market, "a")
        self.assertEqual(bearer(market, "storm", "b"), ("insurer", "b"))

    def test_no_such_name_before_no_end(self):
        market = ring(101)
        for action in (path, bearer):
            self.assertEqual(caught(self, NoSuchName, action, market, "flood", "a").name, "flood")
            self.assertEqual(caught(self, NoSuchName, action, market, "storm", "x").name, "x")
