"""Points 9, 11 and 12: the rounds of a market, positions, what external participants bear, states that settle."""

import unittest
from functools import cache
from itertools import product

from spiraldue.errors import NoSuchName
from spiraldue.spiral import (bearer, external_losses, next_round, path, positions, positions_at, rounds,
                              settled)
from tests.helper import (FULL, OUT, TO_A, TO_B, caught, example, market_of, plain_paid, plain_parts, plain_round,
                          plain_rows, random_market, ring, state, web)


@cache
def markets():
    """Pairs of a market and an event, of many kinds."""
    found = [example(), web(), ring(100, 1), ring(99, 1, "b"), market_of(()), market_of(("a", "b"))]
    found += [random_market(seed) for seed in range(80)]
    return [(market, event) for market in found for event in market.events]


class ErrorsTest(unittest.TestCase):
    def test_no_such_event(self):
        market = example()
        for action in (rounds, settled, positions, external_losses):
            for name in ("a", "flood", "", "Storm"):
                self.assertEqual(caught(self, NoSuchName, action, market, name).name, name)
        self.assertEqual(caught(self, NoSuchName, next_round, market, "a", (0, 0)).name, "a")

    def test_no_such_event_before_no_such_insurer(self):
        market = example()
        for action in (path, bearer):
            self.assertEqual(caught(self, NoSuchName, action, market, "flood", "x").name, "flood")
            self.assertEqual(caught(self, NoSuchName, action, market, "a", "storm").name, "a")
            self.assertEqual(caught(self, NoSuchName, action, market, "storm", "x").name, "x")
            self.assertEqual(caught(self, NoSuchName, action, market, "storm", "storm").name, "storm")


class NextRoundTest(unittest.TestCase):
    def test_direct_losses_and_what_is_assumed(self):
        market = example()
        self.assertEqual(next_round(market, "storm", (0, 0)), (160, 0))
        self.assertEqual(next_round(market, "storm", (160, 0)), (160, 60))
        self.assertEqual(next_round(market, "storm", (100, 50)), (160, 0))
        self.assertEqual(next_round(market, "storm", (101, 51)), (161, 1))
        self.assertEqual(next_round(market, "storm", (0, 53)), (162, 0))

    def test_large_losses(self):
        self.assertEqual(next_round(example(), "storm", (10 ** 9, 10 ** 9)), (260, 300))
        self.assertEqual(next_round(ring(5), "storm", (10 ** 20, 10 ** 20)), (10 ** 20, 5))

    def test_any_state(self):
        for market, event in markets():
            for gross in product((0, 7, 60), repeat=len(market.insurers)):
                found = next_round(market, event, gross)
                self.assertIsInstance(found, tuple)
                self.assertEqual(found, plain_round(market, event, gross))


class RoundsTest(unittest.TestCase):
    def test_example(self):
        self.assertEqual(rounds(example(), "storm")[:4], ((160, 0), (160, 60), (165, 60), (165, 65)))
        self.assertEqual(settled(example(), "storm"), (170, 70))

    def test_from_the_direct_losses_to_the_first_round_that_equals_the_next_one(self):
        for market, event in markets():
            found, rows = rounds(market, event), plain_rows(market, event)
            self.assertIsInstance(found, tuple)
            self.assertEqual(list(found), rows[:len(found)])
            self.assertEqual(rows[len(found) - 1:], [found[-1]] * (202 - len(found)))
            self.assertEqual(len(set(found)), len(found))
            self.assertEqual(settled(market, event), found[-1])

    def test_no_gross_loss_ever_falls(self):
        for market, event in markets():
            found = rounds(market, event)
            for ahead, behind in zip(found, found[1:]):
                self.assertTrue(all(new >= old for old, new in zip(ahead, behind)))

    def test_round_200_is_the_last_one(self):
        self.assertEqual(len(rounds(ring(100, 1), "storm")), 201)
        self.assertEqual(settled(ring(100, 1), "storm"), (101, 100))

    def test_round_0_is_the_fixed_one(self):
        market = market_of(("a", "b"))
        market.set_loss("storm", "b", 100000)
        self.assertEqual(rounds(market, "storm"), ((0, 100000),))
        self.assertEqual(rounds(market_of(()), "storm"), ((),))

    def test_each_event_has_its_own(self):
        market = web()
        self.assertEqual([rounds(market, event)[0] for event in market.events], [(97, 0, 0), (0, 61, 33), (0, 0, 88)])
        self.assertEqual(len({settled(market, event) for event in market.events}), 3)

    def test_the_market_stays(self):
        market = web()
        before = state(market)
        for event in market.events:
            positions(market, event), external_losses(market, event), path(market, event, "a")
        self.assertEqual(state(market), before)


class PositionsTest(unittest.TestCase):
    def test_example(self):
        self.assertEqual(positions(example(), "storm"), (("a", 160, 10, 70, 100), ("b", 0, 70, 20, 50)))
        self.assertEqual(external_losses(example(), "storm"), (0, 10))

    def test_ceded_is_what_all_treaties_of_the_programme_pay(self):
        market = market_of(("a", "b"))
        market.add_treaty("a", ("share", 500), OUT)
        market.add_treaty("a", ("layer", 2, 3), (("b", 1), (None, 2)))
        market.add_treaty("a", FULL, OUT)
        market.add_treaty("b", FULL, (("a", 1), (None, 1)))
        market.set_loss("storm", "a", 9)
        self.assertEqual(external_losses(market, "storm"), (5, 2, 2, 0))
        market.terminate(2)
        self.assertEqual(positions(market, "storm"), (("a", 9, 1, 8, 2), ("b", 0, 1, 1, 0)))
        self.assertEqual(external_losses(market, "storm"), (5, 2, 0, 0))

    def test_ended_treaties_bear_nothing(self):
        market = example()
        market.terminate(1)
        self.assertEqual(positions(market, "storm"), (("a", 160, 0, 60, 100), ("b", 0, 60, 0, 60)))
        self.assertEqual(external_losses(market, "storm"), (0, 0))

    def test_without_treaties_and_insurers(self):
        market = market_of(("a",))
        self.assertEqual((positions(market, "storm"), external_losses(market, "storm")), ((("a", 0, 0, 0, 0),), ()))
        self.assertEqual(positions(market_of(()), "storm"), ())

    def test_as_the_document_tells_them(self):
        for market, event in markets():
            gross = plain_rows(market, event)[-1]
            wanted = []
            outside = [0] * len(market.treaties)
            for name, loss, direct in zip(market.insurers, gross, market.direct(event)):
                paid, net = plain_paid(market, name, loss)
                wanted.append((name, direct, loss - direct, sum(paid.values()), net))
                for number, amount in paid.items():
                    panel = market.treaties[number][2]
                    outside[number] += sum(part for (other, _), part in zip(panel, plain_parts(amount, panel))
                                           if other is None)
            self.assertEqual(positions(market, event), tuple(wanted))
            self.assertEqual(external_losses(market, event), tuple(outside))

    def test_all_direct_losses_are_borne(self):
        for market, event in markets():
            borne = sum(row[4] for row in positions(market, event)) + sum(external_losses(market, event))
            self.assertEqual(borne, sum(market.direct(event)))

    def test_positions_at_other_losses(self):
        self.assertEqual(positions_at(example(), "storm", (200, 40)), (("a", 160, 40, 100, 100), ("b", 0, 40, 0, 40)))


class SettlesTest(unittest.TestCase):
    def test_the_fixed_round_settles_with_equality(self):
        for market, event in markets():
            self.assertEqual(next_round(market, event, settled(market, event)), settled(market, event))

    def test_no_state_that_settles_is_anywhere_less(self):
        market = market_of(("a", "b"))
        market.add_treaty("a", ("share", 500), TO_B)
        market.add_treaty("b", ("layer", 2, 9), (("a", 2), (None, 1)))
        market.set_loss("storm", "a", 6)
        market.set_loss("storm", "b", 1)
        least = settled(market, "storm")
        settling = [gross for gross in product(range(16), repeat=2)
                    if all(loss >= needed for loss, needed in zip(gross, next_round(market, "storm", gross)))]
        self.assertIn(least, settling)
        self.assertGreater(len(settling), 10)
        for gross in settling:
            self.assertTrue(all(loss >= lowest for loss, lowest in zip(gross, least)), gross)

    def test_also_where_several_states_equal_their_next_round(self):
        market = market_of(("a", "b"))
        market.add_treaty("a", FULL, TO_B)
        market.add_treaty("b", FULL, TO_A)
        self.assertEqual(next_round(market, "storm", (7, 7)), (7, 7))
        self.assertEqual(settled(market, "storm"), (0, 0))
