"""Point 23: settling and cash."""

import unittest
from random import Random

from spiraldue.errors import NoSuchName
from spiraldue.post import Post
from spiraldue.spiral import external_losses, positions
from tests.helper import FULL, TO_A, TO_B, change_market, drive, example, market_of, random_market, seen, unchanged


def shared():
    """A post over a, whose two treaties others and external participants assume, in two events."""
    market = market_of(("a", "b", "c"), ("storm", "flood"))
    market.add_treaty("a", ("share", 500), (("c", 2), (None, 1), ("b", 1)))
    market.add_treaty("a", ("layer", 10, 30), (("b", 1), (None, 3)))
    market.add_treaty("b", FULL, ((None, 1), ("c", 1)))
    market.set_loss("storm", "a", 100)
    market.set_loss("flood", "a", 50)
    return Post(market)


class PaymentsTest(unittest.TestCase):
    def test_in_the_order_of_treaties_and_participations(self):
        post = shared()
        drive(post)
        self.assertEqual(post.settle("storm"),
                         [("c", "a", 26), (None, "a", 12), ("b", "a", 12), ("b", "a", 8), (None, "a", 22),
                          (None, "b", 10), ("c", "b", 10)])
        self.assertEqual([post.cash("storm", name) for name in "abc"], [80, 0, -36])
        self.assertEqual([post.cash("flood", name) for name in "abc"], [0, 0, 0])
        self.assertEqual(post.settle("flood"),
                         [("c", "a", 13), (None, "a", 6), ("b", "a", 6), ("b", "a", 4), (None, "a", 11),
                          (None, "b", 5), ("c", "b", 5)])

    def test_only_what_was_received_is_due(self):
        post = shared()
        self.assertEqual(post.settle("storm"), [])
        numbers = post.send("a")
        self.assertEqual(post.settle("storm"), [(None, "a", 12), (None, "a", 22)])
        self.assertEqual([post.notice(number)[:3] for number in numbers[:2]], [("c", 0, "storm"), ("b", 0, "storm")])
        post.deliver(numbers[1])
        self.assertEqual(post.settle("storm"), [("b", "a", 12)])
        post.deliver(numbers[0])
        post.drop(numbers[0])
        self.assertEqual(post.settle("storm"), [("c", "a", 26)])
        self.assertEqual(post.settle("flood"), [(None, "a", 6), (None, "a", 11)])

    def test_what_external_participants_owe_is_what_was_sent(self):
        post = shared()
        drive(post)
        post.settle("storm")
        post.market.set_loss("storm", "a", 0)
        self.assertEqual(post.settle("storm"), [])
        post.send("a")
        self.assertEqual(post.settle("storm"), [("a", None, 12), ("a", None, 22)])
        self.assertEqual([post.cash("storm", name) for name in "abc"], [46, 0, -36])

    def test_the_difference_is_paid_back(self):
        post = shared()
        drive(post)
        post.settle("storm")
        post.market.set_loss("storm", "a", 40)
        drive(post)
        self.assertEqual(post.settle("storm"),
                         [("a", "c", 16), ("a", None, 7), ("a", "b", 7), ("a", "b", 5), ("a", None, 15),
                          ("b", None, 6), ("b", "c", 6)])
        self.assertEqual([post.cash("storm", name) for name in "abc"], [30, 0, -14])
        post.market.set_loss("storm", "a", 41)
        drive(post)
        self.assertEqual(post.settle("storm"), [(None, "a", 1)])
        self.assertEqual([post.cash("storm", name) for name in "abc"], [31, 0, -14])

    def test_a_second_settlement_pays_nothing(self):
        post = shared()
        drive(post)
        first = post.settle("storm")
        before = seen(post)
        second = post.settle("storm")
        self.assertEqual((second, seen(post)), ([], before))
        first.append("x"), second.append("x")
        self.assertEqual((post.settle("storm"), seen(post)), ([], before))

    def test_an_ended_treaty(self):
        post = shared()
        drive(post)
        post.settle("storm")
        post.market.terminate(1)
        self.assertEqual(post.settle("storm"), [])
        drive(post)
        self.assertEqual(post.settle("storm"), [("a", "b", 8), ("a", None, 22), ("b", None, 4), ("b", "c", 4)])
        self.assertEqual(post.settle("storm"), [])
        self.assertEqual([post.cash("storm", name) for name in "abc"], [50, 0, -32])

    def test_an_ended_treaty_is_due_as_long_as_its_notice_tells_so(self):
        post = shared()
        drive(post)
        post.market.terminate(0)
        self.assertEqual(post.settle("storm")[:3], [("c", "a", 26), (None, "a", 12), ("b", "a", 12)])

    def test_the_amount_of_round_200_counts(self):
        market = market_of(("a", "b"))
        market.add_treaty("a", ("layer", 0, 100), TO_B)
        market.add_treaty("b", FULL, TO_A)
        market.set_loss("storm", "a", 1)
        post = Post(market)
        drive(post)
        self.assertEqual(post.settle("storm"), [("b", "a", 100), ("a", "b", 100)])
        self.assertEqual([post.cash("storm", name) for name in "ab"], [0, 0])

    def test_nothing_to_settle(self):
        self.assertEqual(Post(market_of(("a",))).settle("storm"), [])
        self.assertEqual(Post(market_of(())).settle("storm"), [])

    def test_errors(self):
        post = shared()
        drive(post)
        for name in ("a", "x", ""):
            self.assertEqual(unchanged(self, post, NoSuchName, post.settle, name).name, name)

    def test_settling_tells_nobody_anything(self):
        post = shared()
        post.send("a")
        before = seen(post)
        post.settle("storm")
        self.assertEqual(seen(post)[:-1], before[:-1])


class QuietSettlementTest(unittest.TestCase):
    def test_cash_is_what_was_ceded_less_what_was_assumed(self):
        for market in [example()] + [random_market(seed) for seed in range(12)]:
            post = Post(market)
            drive(post)
            for event in market.events:
                payments = post.settle(event)
                self.assertTrue(all(amount > 0 for _, _, amount in payments))
                outside = sum(amount for payer, _, amount in payments if payer is None)
                self.assertEqual(outside, sum(external_losses(market, event)))
                for name, _, assumed, ceded, _ in positions(market, event):
                    self.assertEqual(post.cash(event, name), ceded - assumed)

    def test_also_by_way_of_corrections(self):
        paid_back = 0
        for seed in range(20):
            source, market = Random(seed), random_market(seed)
            post = Post(market)
            for _ in range(6):
                change_market(source, market)
                drive(post)
                payments = [payment for event in market.events for payment in post.settle(event)]
                cedents = {row[0] for row in market.treaties}
                paid_back += sum(payer in cedents and payee is None for payer, payee, _ in payments)
                for event in market.events:
                    for name, _, assumed, ceded, _ in positions(market, event):
                        self.assertEqual(post.cash(event, name), ceded - assumed)
        self.assertGreater(paid_back, 10)
