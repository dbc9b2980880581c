"""Points 8 and 9: what treaties pay, the rounds, and whether they come to an end."""

import unittest

from spiraldue.errors import NoEnd
from spiraldue.flows import next_gross, rounds_to_end, treaty_payments
from tests.helper import FULL, OUT, TO_A, TO_B, caught, example, market_of, refused, ring, state, web


def rounds(market, event="storm"):
    """The rounds of an event of a market."""
    return rounds_to_end(market.insurers, market.treaties, market.direct(event))


def paid_by_units(cover, loss):
    """What a cover pays, by the words of the point, counted unit by unit."""
    if cover[0] == "share":
        return len([unit for unit in range(1, loss + 1) if cover[1] * unit // 1000 > cover[1] * (unit - 1) // 1000])
    return len([unit for unit in range(1, loss + 1) if cover[1] < unit <= cover[1] + cover[2]])


def plain_next(market, event, gross):
    """The next round, told another way: treaty by treaty, unit by unit."""
    rest = dict(zip(market.insurers, gross))
    losses = {name: market.losses.get((event, name), 0) for name in market.insurers}
    for cedent, cover, panel, ended in market.treaties:
        amount = 0 if ended else paid_by_units(cover, rest[cedent])
        rest[cedent] -= amount
        cycle = [participant for participant, shares in panel for _ in range(shares)]
        for unit in range(amount):
            participant = cycle[unit % len(cycle)]
            if participant is not None:
                losses[participant] += 1
    return tuple(losses.values())


class PaymentsTest(unittest.TestCase):
    def payments(self, market, gross):
        return treaty_payments(market.insurers, market.treaties, gross)

    def test_covers_of_a_programme_in_the_order_of_numbers(self):
        market = market_of(("a", "b"))
        market.add_treaty("a", ("share", 500), TO_B)
        market.add_treaty("b", FULL, OUT)
        market.add_treaty("a", ("layer", 2, 3), TO_B)
        market.add_treaty("a", FULL, OUT)
        self.assertEqual(self.payments(market, (9, 4)), (4, 4, 3, 2))

    def test_an_ended_treaty_pays_0_and_the_others_get_more(self):
        market = market_of(("a", "b"))
        market.add_treaty("a", ("share", 500), TO_B)
        market.add_treaty("a", ("layer", 2, 5), TO_B)
        market.add_treaty("a", ("share", 500), OUT)
        self.assertEqual(self.payments(market, (9, 0)), (4, 3, 1))
        market.terminate(0)
        self.assertEqual(self.payments(market, (9, 0)), (0, 5, 2))
        market.terminate(1)
        self.assertEqual(self.payments(market, (9, 0)), (0, 0, 4))
        market.terminate(2)
        self.assertEqual(self.payments(market, (9, 0)), (0, 0, 0))

    def test_each_participant_assumes_its_part(self):
        market = market_of(("a", "b", "c"))
        market.add_treaty("a", FULL, ((None, 1), ("c", 2), ("b", 1)))
        market.set_loss("storm", "b", 10)
        found = [next_gross(market.insurers, market.treaties, (0, 10, 0), (loss, 0, 0)) for loss in range(6)]
        self.assertEqual(found, [(0, 10, 0), (0, 10, 0), (0, 10, 1), (0, 10, 2), (0, 11, 2), (0, 11, 2)])


class RoundsTest(unittest.TestCase):
    def test_example(self):
        found = rounds(example())
        self.assertEqual(found[:4], ((160, 0), (160, 60), (165, 60), (165, 65)))
        self.assertEqual(found[-1], (170, 70))

    def test_without_treaties(self):
        market = market_of(("a", "b"))
        self.assertEqual(rounds(market), ((0, 0),))
        market.set_loss("storm", "b", 3)
        self.assertEqual(rounds(market), ((0, 3),))

    def test_losses_that_go_round_and_end(self):
        market = market_of(("a", "b"))
        market.add_treaty("a", ("share", 500), TO_B)
        market.add_treaty("b", ("share", 500), TO_A)
        market.set_loss("storm", "a", 8)
        self.assertEqual(rounds(market), ((8, 0), (8, 4), (10, 4), (10, 5)))

    def test_each_round_follows_from_the_one_ahead(self):
        for market in (example(), web()):
            for event in market.events:
                rows = rounds(market, event)
                self.assertGreater(len(rows), 3)
                self.assertEqual(rows[0], market.direct(event))
                for ahead, behind in zip(rows, rows[1:]):
                    self.assertEqual(behind, plain_next(market, event, ahead))
                    self.assertNotEqual(behind, ahead)
                    self.assertTrue(all(new >= old for old, new in zip(ahead, behind)))
                self.assertEqual(plain_next(market, event, rows[-1]), rows[-1])

    def test_events_do_not_mix(self):
        market = web()
        alone = web()
        alone.losses = {("flood", name): loss for name, loss in zip(alone.insurers, market.direct("flood"))}
        self.assertEqual(rounds(market, "flood"), rounds(alone, "flood"))


class FixedRoundTest(unittest.TestCase):
    """A layer of the limit m from 0, and all of it back, take 2 * m rounds for a loss of 1."""

    def test_round_200_is_the_last_one(self):
        market = ring(100, 1)
        self.assertEqual(len(rounds(market)), 201)
        self.assertEqual(rounds(market)[-2:], ((100, 100), (101, 100)))

    def test_round_199(self):
        self.assertEqual(len(rounds(ring(99, 1, "b"))), 200)

    def test_round_201_is_one_too_many(self):
        market = ring(100, 1)
        market.set_loss("storm", "a", 0)
        refused(self, market, NoEnd, market.set_loss, "storm", "b", 1)
        caught(self, NoEnd, rounds_to_end, market.insurers, market.treaties, (0, 1))

    def test_round_202_is_too_many(self):
        market = market_of(("a", "b"))
        market.add_treaty("b", FULL, TO_A)
        market.set_loss("storm", "a", 1)
        refused(self, market, NoEnd, market.add_treaty, "a", ("layer", 0, 101), TO_B)
        self.assertEqual(market.add_treaty("a", ("layer", 0, 100), TO_B), 1)


class NoEndTest(unittest.TestCase):
    def test_a_loss(self):
        market = market_of(("a", "b", "c"))
        market.add_treaty("a", FULL, TO_B)
        market.add_treaty("b", FULL, TO_A)
        for insurer in ("a", "b"):
            for amount in (1, 100000):
                refused(self, market, NoEnd, market.set_loss, "storm", insurer, amount)
        self.assertIsNone(market.set_loss("storm", "c", 100000))
        self.assertIsNone(market.set_loss("storm", "a", 0))
        self.assertEqual(market.direct("storm"), (0, 0, 100000))

    def test_a_treaty(self):
        market = market_of(("a", "b"), ("storm", "flood", "quake"))
        market.add_treaty("a", FULL, TO_B)
        market.set_loss("quake", "b", 1)
        refused(self, market, NoEnd, market.add_treaty, "b", FULL, TO_A)
        self.assertEqual(market.add_treaty("b", FULL, OUT), 1)
        self.assertEqual(market.add_treaty("b", FULL, TO_A), 2)

    def test_a_treaty_for_each_event(self):
        for event in ("storm", "flood", "quake"):
            market = market_of(("a", "b"), ("storm", "flood", "quake"))
            market.add_treaty("a", FULL, TO_B)
            market.set_loss(event, "a", 1)
            refused(self, market, NoEnd, market.add_treaty, "b", FULL, TO_A)

    def test_an_ended_treaty(self):
        market = market_of(("a", "b"))
        market.add_treaty("a", FULL, OUT)
        market.add_treaty("a", FULL, TO_B)
        market.add_treaty("b", FULL, TO_A)
        market.set_loss("storm", "a", 5)
        refused(self, market, NoEnd, market.terminate, 0)
        self.assertEqual(rounds(market), ((5, 0),))
        market.terminate(2)
        market.terminate(0)
        self.assertEqual(rounds(market), ((5, 0), (5, 5)))

    def test_ending_opens_the_way_again(self):
        market = market_of(("a", "b"))
        market.add_treaty("a", FULL, TO_B)
        market.add_treaty("b", FULL, TO_A)
        refused(self, market, NoEnd, market.set_loss, "storm", "a", 7)
        market.terminate(0)
        market.set_loss("storm", "a", 7)
        self.assertEqual(market.direct("storm"), (7, 0))

    def test_the_market_goes_on_behind_an_error(self):
        market = market_of(("a", "b"))
        market.add_treaty("a", FULL, TO_B)
        market.set_loss("storm", "a", 3)
        refused(self, market, NoEnd, market.add_treaty, "b", FULL, TO_A)
        self.assertEqual(market.add_treaty("b", ("share", 500), TO_A), 1)
        self.assertEqual(rounds(market)[-1], (5, 5))


class MostGrossTest(unittest.TestCase):
    """Losses beyond 100000 are assigned here: by its methods alone a market never gets that far."""

    def build(self, loss):
        market = market_of(("a", "b"))
        market.add_treaty("a", ("layer", 0, 5), TO_B)
        market.losses = {("storm", "a"): loss}
        return market

    def test_just_1000000000(self):
        market = self.build(10 ** 9)
        self.assertEqual(rounds(market)[-1], (10 ** 9, 5))
        market.add_treaty("b", ("layer", 1, 2), OUT)
        market.set_loss("storm", "b", 9)
        market.terminate(0)
        self.assertEqual(rounds(market)[-1], (10 ** 9, 9))

    def test_one_more(self):
        market = self.build(10 ** 9 + 1)
        caught(self, NoEnd, rounds, market)
        refused(self, market, NoEnd, market.add_treaty, "b", ("layer", 1, 2), OUT)
        refused(self, market, NoEnd, market.set_loss, "storm", "b", 9)
        refused(self, market, NoEnd, market.terminate, 0)
        self.assertIsNone(market.set_loss("storm", "a", 100000))

    def test_passed_by_what_is_assumed(self):
        market = self.build(9)
        market.losses = {("storm", "a"): 9, ("storm", "b"): 10 ** 9 - 5}
        self.assertEqual(rounds(market)[-1], (9, 10 ** 9))
        refused(self, market, NoEnd, market.add_treaty, "a", ("share", 250), TO_B)
        self.assertEqual(state(market)[2], (("a", ("layer", 0, 5), TO_B, False),))
