"""Points 15 to 20: notices, estimates, changes to report, sending and resending, quiet posts."""

import unittest

from spiraldue.errors import NoSuchName, NoSuchNotice, NoSuchTreaty, TooMany
from spiraldue.estimates import estimated_schedule
from spiraldue.market import Market
from spiraldue.post import Post
from spiraldue.schedules import amount_at
from tests.helper import FULL, OUT, TO_A, TO_B, caught, drive, example, market_of, ring, seen, unchanged, web

EIGHT = ((0, 8),)


def chain():
    """A post over a, of which b assumes all, of whom c and others assume a half each."""
    market = market_of(("a", "b", "c"), ("storm", "flood"))
    market.add_treaty("a", FULL, TO_B)
    market.add_treaty("b", FULL, (("c", 1), (None, 1)))
    market.set_loss("storm", "a", 8)
    return Post(market)


def fan():
    """A post over a, whose treaties all others assume, in an order of their own."""
    market = market_of("abcdef", ("storm", "flood", "quake"))
    market.add_treaty("a", ("share", 500), (("f", 1), ("b", 1), (None, 1), ("e", 1), ("c", 1), ("d", 1)))
    market.add_treaty("a", ("share", 500), (("c", 1), ("b", 1)))
    for event in market.events:
        market.set_loss(event, "a", 100)
    return Post(market)


def filled(many):
    """A post over a single treaty of a, with so many notices of it, 16 of them dropped."""
    market = market_of(("a", "b"), ("storm",))
    market.add_treaty("a", FULL, TO_B)
    market.set_loss("storm", "a", 8)
    post = Post(market)
    post.send("a")
    while len(post) < many:
        post.resend("a")
    for number in range(1, 17):
        post.drop(number)
    return post


class NewPostTest(unittest.TestCase):
    def test_a_new_post(self):
        market = example()
        post = Post(market)
        self.assertIs(post.market, market)
        self.assertEqual((len(post), list(post)), (0, []))
        self.assertEqual(post.pending(), (("a",), ()))
        self.assertIs(post.is_quiet(), False)
        self.assertEqual([post.last_sent(number, "storm") for number in (0, 1)], [(0, ()), (0, ())])
        self.assertEqual([post.estimated("storm", name) for name in "ab"], [((0, 160),), ()])
        self.assertEqual([post.cash("storm", name) for name in "ab"], [0, 0])

    def test_a_post_over_nothing(self):
        for market in (Market(), market_of(()), market_of(("a",))):
            post = Post(market)
            self.assertEqual(post.pending(), ((), ()))
            self.assertIs(post.is_quiet(), True)
            self.assertEqual([post.estimated_positions(event) for event in market.events],
                             [tuple((name, 0, 0, 0, 0) for name in market.insurers) for _ in market.events])

    def test_posts_share_nothing(self):
        market = example()
        first, second = Post(market), Post(market)
        first.send("a")
        first.deliver(1)
        self.assertEqual((len(second), second.last_sent(0, "storm"), second.estimated("storm", "b")), (0, (0, ()), ()))


class NoticesTest(unittest.TestCase):
    def test_a_notice(self):
        post = chain()
        self.assertEqual(post.send("a"), (1,))
        self.assertEqual(post.notice(1), ("b", 0, "storm", 1, EIGHT))
        self.assertIsInstance(post.notice(1), tuple)
        self.assertEqual(post.last_sent(0, "storm"), (1, EIGHT))
        self.assertEqual(post.last_sent(0, "flood"), (0, ()))

    def test_to_each_participant_in_the_order_of_the_panel_treaty_by_treaty_and_event_by_event(self):
        post = fan()
        self.assertEqual(post.send("a"), tuple(range(1, 22)))
        wanted = [(name, 0, event) for event in ("storm", "flood", "quake") for name in "fbecd"]
        wanted += [(name, 1, event) for event in ("storm", "flood", "quake") for name in "cb"]
        self.assertEqual([post.notice(number)[:3] for number in post], wanted)
        self.assertEqual([post.notice(number)[3:] for number in (1, 21)], [(1, ((0, 50),)), (1, ((0, 25),))])

    def test_numbers_go_on_and_are_never_used_again(self):
        post = chain()
        post.send("a")
        post.deliver(1)
        self.assertEqual(post.send("b"), (2,))
        post.drop(2)
        post.drop(1)
        self.assertEqual((len(post), list(post)), (2, []))
        self.assertEqual(post.resend("a"), (3,))
        self.assertEqual((len(post), list(post)), (3, [3]))
        self.assertEqual(post.resend("b"), (4,))
        post.drop(3)
        self.assertEqual((len(post), list(post)), (4, [4]))

    def test_only_what_has_changed_is_sent(self):
        post = fan()
        post.send("a")
        self.assertEqual(post.send("a"), ())
        post.market.set_loss("flood", "a", 102)
        self.assertEqual(post.send("a"), (22, 23, 24, 25, 26))
        self.assertEqual([post.notice(number) for number in range(22, 27)],
                         [(name, 0, "flood", 2, ((0, 51),)) for name in "fbecd"])
        post.market.set_loss("flood", "a", 101)
        self.assertEqual(len(post.send("a")), 5)
        self.assertEqual((post.last_sent(0, "flood"), post.last_sent(1, "flood")), ((3, ((0, 50),)), (1, ((0, 25),))))

    def test_sequence_numbers_of_each_treaty_and_event(self):
        post = chain()
        for amount, sequence in ((8, 1), (9, 2), (0, 3), (8, 4)):
            post.market.set_loss("storm", "a", amount)
            post.send("a")
            self.assertEqual(post.last_sent(0, "storm"), (sequence, ((0, amount),) if amount else ()))
        post.market.set_loss("flood", "a", 5)
        post.market.set_loss("flood", "b", 5)
        self.assertEqual((post.send("a"), post.send("b")), ((5,), (6,)))
        self.assertEqual((post.notice(5), post.notice(6)),
                         (("b", 0, "flood", 1, ((0, 5),)), ("c", 1, "flood", 1, ((0, 5),))))
        self.assertEqual(post.last_sent(0, "storm"), (4, EIGHT))

    def test_sent_back_ahead_of_being_received(self):
        post = chain()
        post.send("a")
        post.market.set_loss("storm", "a", 0)
        self.assertEqual(post.send("a"), (2,))
        self.assertEqual(post.notice(2), ("b", 0, "storm", 2, ()))
        self.assertEqual(post.last_sent(0, "storm"), (2, ()))

    def test_without_participants_the_schedule_counts_as_sent(self):
        market = market_of(("a",))
        market.add_treaty("a", FULL, OUT)
        market.set_loss("storm", "a", 8)
        post = Post(market)
        self.assertEqual(post.pending(), (("a",), ()))
        self.assertEqual((post.send("a"), len(post)), ((), 0))
        self.assertEqual(post.last_sent(0, "storm"), (1, EIGHT))
        self.assertIs(post.is_quiet(), True)
        market.set_loss("storm", "a", 9)
        self.assertIs(post.is_quiet(), False)
        self.assertEqual((post.send("a"), post.resend("a")), ((), ()))
        self.assertEqual(post.last_sent(0, "storm"), (2, ((0, 9),)))


class DeliverTest(unittest.TestCase):
    def told(self, post, name="b"):
        """What an insurer estimates for round 200."""
        return amount_at(post.estimated("storm", name), 200)

    def three(self):
        """A post with three notices of a, of 8, 9 and 10."""
        post = chain()
        for amount in (8, 9, 10):
            post.market.set_loss("storm", "a", amount)
            post.send("a")
        return post

    def test_in_order(self):
        post = self.three()
        self.assertEqual(self.told(post), 0)
        for number, amount in ((1, 8), (2, 9), (3, 10)):
            self.assertIs(post.deliver(number), True)
            self.assertEqual(self.told(post), amount)

    def test_late_and_in_another_order(self):
        post = self.three()
        self.assertIs(post.deliver(2), True)
        self.assertIs(post.deliver(1), False)
        self.assertEqual(self.told(post), 9)
        self.assertIs(post.deliver(3), True)
        before = seen(post)
        self.assertEqual((post.deliver(2), post.deliver(1)), (False, False))
        self.assertEqual(seen(post), before)

    def test_twice(self):
        post = self.three()
        self.assertIs(post.deliver(3), True)
        before = seen(post)
        self.assertIs(post.deliver(3), False)
        self.assertEqual(seen(post), before)

    def test_dropped(self):
        post = self.three()
        post.deliver(2)
        self.assertIsNone(post.drop(2))
        self.assertIsNone(post.drop(3))
        self.assertEqual(self.told(post), 9)
        self.assertEqual(list(post), [1])
        for action in (post.notice, post.deliver, post.drop):
            for number in (2, 3):
                self.assertEqual(unchanged(self, post, NoSuchNotice, action, number).number, number)

    def test_resent(self):
        post = self.three()
        post.drop(3)
        self.assertEqual(post.resend("a"), (4,))
        self.assertEqual(post.notice(4), ("b", 0, "storm", 3, ((0, 10),)))
        self.assertEqual(post.resend("a"), (5,))
        self.assertEqual((post.deliver(5), post.deliver(4), self.told(post)), (True, False, 10))

    def test_only_the_recipient_receives_it(self):
        post = fan()
        post.send("a")
        self.assertIs(post.deliver(2), True)
        self.assertEqual([self.told(post, name) for name in "abcdef"], [100, 9, 0, 0, 0, 0])
        self.assertEqual(post.estimated("flood", "b"), ())
        self.assertIs(post.deliver(17), True)
        self.assertEqual(self.told(post, "b"), 9 + 12)

    def test_sequences_of_treaties_and_events_do_not_mix(self):
        post = chain()
        post.market.set_loss("flood", "a", 3)
        post.market.set_loss("storm", "b", 2)
        post.send("a")
        post.market.set_loss("flood", "a", 4)
        self.assertEqual((post.send("a"), post.notice(3)[3]), ((3,), 2))
        self.assertIs(post.deliver(3), True)
        self.assertIs(post.deliver(1), True)
        self.assertEqual((post.estimated("flood", "b"), post.estimated("storm", "b")), (((1, 4),), ((0, 2), (1, 10))))

    def test_no_such_notice(self):
        post = chain()
        for action in (post.notice, post.deliver, post.drop):
            for number in (0, 1, -1):
                self.assertEqual(unchanged(self, post, NoSuchNotice, action, number).number, number)
        post.send("a")
        for action in (post.notice, post.deliver, post.drop):
            for number in (0, 2, -1, 10 ** 30, True, False):
                self.assertIs(unchanged(self, post, NoSuchNotice, action, number).number, number)


class IterationTest(unittest.TestCase):
    def test_dropping_within_a_loop(self):
        post = fan()
        post.send("a")
        found = []
        for number in post:
            found.append(number)
            post.drop(number)
        self.assertEqual((found, list(post), len(post)), (list(range(1, 22)), [], 21))

    def test_sending_within_a_loop(self):
        post = fan()
        post.send("a")
        for _ in post:
            post.resend("a")
        self.assertEqual(len(post), 21 * 22)


class EstimatedTest(unittest.TestCase):
    def test_what_is_received_counts_from_the_next_round_on(self):
        post = chain()
        post.market.set_loss("storm", "b", 3)
        post.send("a")
        post.deliver(1)
        self.assertEqual(post.estimated("storm", "b"), ((0, 3), (1, 11)))
        self.assertEqual(post.send("b"), (2,))
        self.assertEqual(post.notice(2), ("c", 1, "storm", 1, ((0, 3), (1, 11))))
        post.deliver(2)
        self.assertEqual(post.estimated("storm", "c"), ((1, 2), (2, 6)))

    def test_ended_treaties_count_as_long_as_their_notice_does(self):
        post = chain()
        post.send("a")
        post.deliver(1)
        post.market.terminate(0)
        self.assertEqual(post.estimated("storm", "b"), ((1, 8),))
        self.assertEqual(post.send("a"), (2,))
        self.assertEqual(post.notice(2), ("b", 0, "storm", 2, ()))
        post.deliver(2)
        self.assertEqual(post.estimated("storm", "b"), ())

    def test_notices_of_several_treaties_add_up(self):
        post = fan()
        post.send("a")
        for number in (4, 16):
            post.deliver(number)
        self.assertEqual(post.estimated("storm", "c"), ((1, 8 + 13),))
        post.deliver(20)
        self.assertEqual((post.estimated("storm", "c"), post.estimated("quake", "c")), (((1, 21),), ((1, 13),)))

    def test_a_change_at_round_200_is_assumed_by_nobody(self):
        post = Post(ring(100, 1))
        drive(post)
        self.assertEqual(post.estimated("storm", "a")[-1], (200, 101))
        post.market.set_loss("storm", "a", 0)
        number, = post.send("a")
        self.assertEqual(post.notice(number)[4][-2:], ((198, 99), (200, 100)))
        post.deliver(number)
        self.assertEqual(post.estimated("storm", "b")[-1], (199, 99))
        self.assertEqual(estimated_schedule(post.market, {("b", 0, "storm"): (1, ((0, 5), (199, 6), (200, 9)))},
                                            "storm", "b"), ((1, 5), (200, 6)))

    def test_direct_losses_that_were_changed(self):
        post = chain()
        self.assertEqual(post.estimated("storm", "a"), EIGHT)
        post.market.set_loss("storm", "a", 5)
        self.assertEqual(post.estimated("storm", "a"), ((0, 5),))
        self.assertEqual(post.estimated("flood", "a"), ())

    def test_insurers_and_events_added_later(self):
        post = chain()
        post.send("a")
        post.market.add_insurer("d")
        post.market.add_event("quake")
        post.market.add_treaty("a", ("share", 100), (("d", 1),))
        self.assertEqual((post.estimated("quake", "d"), post.last_sent(2, "quake")), ((), (0, ())))
        post.market.set_loss("quake", "d", 6)
        self.assertEqual(post.estimated("quake", "d"), ((0, 6),))
        self.assertEqual(post.pending(), ((), (1,)))

    def test_at_most_1000000000_altogether(self):
        market = market_of(("a", "b"))
        market.add_treaty("a", ("layer", 0, 7), TO_B)
        market.set_loss("storm", "a", 7)
        post = Post(market)
        post.send("a")
        post.deliver(1)
        for loss, wanted in ((10 ** 9 - 8, ((0, 10 ** 9 - 8), (1, 10 ** 9 - 1))),
                             (10 ** 9 - 7, ((0, 10 ** 9 - 7), (1, 10 ** 9))),
                             (10 ** 9 - 6, ((0, 10 ** 9 - 6), (1, 10 ** 9))),
                             (10 ** 9, ((0, 10 ** 9),))):
            market.losses = {("storm", "a"): 7, ("storm", "b"): loss}
            self.assertEqual(post.estimated("storm", "b"), wanted)

    def test_a_capped_estimate_falls_again(self):
        market = market_of(("a", "b", "c"))
        market.add_treaty("a", ("layer", 0, 7), TO_B)
        market.add_treaty("c", ("layer", 0, 7), TO_B)
        post = Post(market)
        market.losses = {("storm", "a"): 7, ("storm", "b"): 10 ** 9 - 9, ("storm", "c"): 7}
        post.send("a"), post.send("c"), post.deliver(1), post.deliver(2)
        self.assertEqual(post.estimated("storm", "b"), ((0, 10 ** 9 - 9), (1, 10 ** 9)))
        market.losses = {("storm", "b"): 10 ** 9 - 9}
        post.send("a"), post.deliver(3)
        self.assertEqual(post.estimated("storm", "b"), ((0, 10 ** 9 - 9), (1, 10 ** 9 - 2)))

    def test_estimated_positions(self):
        post = chain()
        post.send("a")
        self.assertEqual(post.estimated_positions("storm"), (("a", 8, 0, 8, 0), ("b", 0, 0, 0, 0), ("c", 0, 0, 0, 0)))
        post.deliver(1)
        self.assertEqual(post.estimated_positions("storm"), (("a", 8, 0, 8, 0), ("b", 0, 8, 8, 0), ("c", 0, 0, 0, 0)))
        self.assertEqual(post.estimated_positions("flood"), (("a", 0, 0, 0, 0), ("b", 0, 0, 0, 0), ("c", 0, 0, 0, 0)))
        post.send("b")
        post.deliver(2)
        post.market.terminate(1)
        self.assertEqual(post.estimated_positions("storm"), (("a", 8, 0, 8, 0), ("b", 0, 8, 0, 8), ("c", 0, 4, 0, 4)))


class EndlessTest(unittest.TestCase):
    """Estimates that grow by notices of ended treaties, which the market itself never sees."""

    def exchange(self, post, first, times):
        """a and b send one another all changes; only notices of the treaties from this number on are delivered."""
        for _ in range(times):
            for name in ("a", "b"):
                for number in post.send(name):
                    if post.notice(number)[1] >= first:
                        post.deliver(number)

    def test_estimates_beyond_1000000000_are_cut(self):
        market = market_of(("a", "b"))
        post = Post(market)
        market.add_treaty("a", FULL, TO_B)
        market.set_loss("storm", "a", 100000)
        self.exchange(post, 0, 1)
        market.set_loss("storm", "a", 0)
        for first, times in ((0, 0), (1, 105), (3, 105)):
            for number in range(len(market.treaties)):
                if not market.treaties[number][3] and first > 0:
                    market.terminate(number)
            if first > 0:
                market.add_treaty("a", FULL, TO_B)
                market.add_treaty("b", FULL, TO_A)
            self.exchange(post, first, times)
        for name in ("a", "b"):
            amounts = [amount for _, amount in post.estimated("storm", name)]
            self.assertEqual((max(amounts), amounts[-1]), (10 ** 9, 10 ** 9))
            self.assertGreater(len(amounts), 50)
        self.assertEqual(post.estimated_positions("storm"),
                         (("a", 0, 10 ** 9, 10 ** 9, 0), ("b", 0, 10 ** 9, 10 ** 9, 0)))
        post.send("a"), post.send("b"), post.resend("a"), post.resend("b")
        drive(post)
        self.assertEqual([post.estimated("storm", name) for name in "ab"], [(), ()])


class ChangesTest(unittest.TestCase):
    def test_a_change_is_a_difference_to_what_was_sent_last(self):
        post = chain()
        self.assertEqual(post.pending()[0], ("a",))
        post.market.set_loss("storm", "a", 0)
        self.assertEqual(post.pending()[0], ())
        post.market.set_loss("storm", "a", 8)
        post.send("a")
        self.assertEqual(post.pending()[0], ())
        post.market.set_loss("storm", "a", 9)
        self.assertEqual(post.pending()[0], ("a",))
        post.market.set_loss("storm", "a", 8)
        self.assertEqual(post.pending()[0], ())

    def test_a_change_of_a_later_round_alone(self):
        post = chain()
        post.market.set_loss("storm", "b", 4)
        post.send("a"), post.send("b")
        self.assertEqual(post.pending()[0], ())
        post.deliver(1)
        self.assertEqual(post.pending()[0], ("b",))

    def test_an_ended_treaty_is_a_change_for_it_and_for_those_behind_it(self):
        market = market_of(("a", "b"))
        market.add_treaty("a", ("share", 500), TO_B)
        market.add_treaty("a", ("share", 500), TO_B)
        market.set_loss("storm", "a", 8)
        post = Post(market)
        post.send("a")
        market.terminate(0)
        self.assertEqual(post.pending()[0], ("a",))
        self.assertEqual(post.send("a"), (3, 4))
        self.assertEqual([post.notice(number)[1:] for number in (3, 4)],
                         [(0, "storm", 2, ()), (1, "storm", 2, ((0, 4),))])
        market.terminate(1)
        self.assertEqual((post.send("a"), post.notice(5)), ((5,), ("b", 1, "storm", 3, ())))

    def test_a_treaty_that_was_ended_unsent_is_no_change(self):
        post = chain()
        post.market.terminate(0)
        self.assertEqual(post.pending(), ((), ()))
        self.assertEqual((post.send("a"), post.resend("a")), ((), ()))
        self.assertIs(post.is_quiet(), True)

    def test_insurers_in_their_order(self):
        market = market_of(("c", "a", "b"))
        for cedent, other in (("a", "b"), ("b", "c"), ("c", "a")):
            market.add_treaty(cedent, ("share", 100), ((other, 1),))
            market.set_loss("storm", cedent, 50)
        self.assertEqual(Post(market).pending(), (("c", "a", "b"), ()))


class ResendTest(unittest.TestCase):
    def test_nothing_was_sent(self):
        post = chain()
        self.assertEqual((post.resend("a"), len(post)), ((), 0))

    def test_what_was_sent_last_not_what_is_current(self):
        post = chain()
        post.send("a")
        post.market.set_loss("storm", "a", 9)
        self.assertEqual(post.resend("a"), (2,))
        self.assertEqual(post.notice(2), ("b", 0, "storm", 1, EIGHT))
        self.assertEqual((post.last_sent(0, "storm"), post.pending()[0]), ((1, EIGHT), ("a",)))

    def test_all_treaties_and_events_in_the_order_of_sending(self):
        post = fan()
        post.send("a")
        post.market.terminate(0)
        self.assertEqual(post.resend("a"), tuple(range(22, 43)))
        self.assertEqual([post.notice(number) for number in range(22, 43)],
                         [post.notice(number) for number in range(1, 22)])
        self.assertEqual(post.resend("b"), ())

    def test_only_treaties_and_events_for_which_one_was_sent(self):
        post = chain()
        post.market.set_loss("storm", "a", 0)
        post.market.set_loss("flood", "a", 5)
        post.send("a")
        self.assertEqual((post.resend("a"), post.notice(2)), ((2,), ("b", 0, "flood", 1, ((0, 5),))))

    def test_a_schedule_of_noughts_is_resent_too(self):
        post = chain()
        post.send("a")
        post.market.set_loss("storm", "a", 0)
        post.send("a")
        self.assertEqual((post.resend("a"), post.notice(3)), ((3,), ("b", 0, "storm", 2, ())))


class WorthTest(unittest.TestCase):
    def test_worth_delivering(self):
        post = chain()
        post.send("a")
        self.assertEqual(post.pending(), ((), (1,)))
        post.market.set_loss("storm", "a", 9)
        post.send("a")
        self.assertEqual(post.pending(), ((), (2,)))
        post.resend("a")
        self.assertEqual(post.pending(), ((), (2, 3)))
        post.drop(2)
        self.assertEqual(post.pending(), ((), (3,)))
        post.deliver(1)
        self.assertEqual(post.pending(), (("b",), (3,)))
        post.deliver(3)
        self.assertEqual(post.pending(), (("b",), ()))

    def test_each_recipient_for_itself(self):
        post = fan()
        post.send("a")
        self.assertEqual(post.pending()[1], tuple(range(1, 22)))
        post.deliver(2)
        self.assertEqual(post.pending()[1], (1,) + tuple(range(3, 22)))

    def test_an_ended_treaty(self):
        post = chain()
        post.send("a")
        post.market.terminate(0)
        self.assertEqual(post.pending(), (("a",), (1,)))
        post.send("a")
        self.assertEqual(post.pending(), ((), (2,)))


class QuietTest(unittest.TestCase):
    def check(self, post, quiet):
        self.assertIs(post.is_quiet(), quiet)

    def test_behind_each_deed(self):
        post = chain()
        self.check(post, False)
        post.send("a")
        self.check(post, False)
        post.deliver(1)
        self.check(post, False)
        post.send("b")
        self.check(post, False)
        post.deliver(2)
        self.check(post, True)
        self.assertEqual(post.pending(), ((), ()))
        post.market.set_loss("storm", "c", 3)
        self.check(post, True)
        post.market.set_loss("storm", "b", 1)
        self.check(post, False)

    def test_a_lost_notice_with_nothing_to_report(self):
        post = chain()
        post.send("a")
        post.drop(1)
        self.assertEqual(post.pending(), ((), ()))
        self.check(post, False)
        post.resend("a")
        self.check(post, False)
        post.deliver(2)
        post.send("b")
        post.deliver(3)
        self.check(post, True)

    def test_an_old_notice_is_not_enough(self):
        post = chain()
        post.market.terminate(1)
        post.send("a")
        post.deliver(1)
        self.check(post, True)
        post.market.set_loss("storm", "a", 9)
        post.send("a")
        self.check(post, False)
        post.deliver(2)
        self.check(post, True)
        post.deliver(1)
        self.check(post, True)

    def test_all_participants_must_have_received_it(self):
        post = fan()
        numbers = post.send("a")
        for number in numbers[:-1]:
            post.deliver(number)
            self.check(post, False)
        post.deliver(numbers[-1])
        self.check(post, True)
        post.resend("a")
        self.check(post, True)
        for number in numbers:
            post.drop(number)
        self.check(post, True)

    def test_an_ended_treaty_must_be_told(self):
        post = chain()
        drive(post)
        post.market.terminate(0)
        self.check(post, False)
        post.send("a")
        self.check(post, False)
        post.deliver(len(post))
        self.check(post, False)
        self.assertEqual(post.pending(), (("b",), ()))
        post.send("b")
        post.deliver(len(post))
        self.check(post, True)


class MostNoticesTest(unittest.TestCase):
    def test_just_2000_by_resending(self):
        post = filled(1999)
        self.assertEqual(post.resend("a"), (2000,))
        self.assertEqual((len(post), list(post)), (2000, list(range(17, 2001))))
        unchanged(self, post, TooMany, post.resend, "a")
        self.assertIs(post.deliver(2000), True)

    def test_just_2000_by_sending(self):
        post = filled(1999)
        post.market.set_loss("storm", "a", 9)
        self.assertEqual(post.send("a"), (2000,))
        post.market.set_loss("storm", "a", 10)
        unchanged(self, post, TooMany, post.send, "a")
        self.assertEqual(post.last_sent(0, "storm"), (2, ((0, 9),)))
        self.assertEqual(post.pending(), (("a",), (2000,)))

    def test_what_sends_none_is_sent(self):
        post = filled(2000)
        self.assertEqual((post.send("a"), post.send("b"), post.resend("b")), ((), (), ()))
        post.market.add_treaty("b", FULL, OUT)
        post.market.set_loss("storm", "b", 5)
        self.assertEqual(post.send("b"), ())
        self.assertEqual(post.last_sent(1, "storm"), (1, ((0, 5),)))
        self.assertEqual(post.resend("b"), ())

    def test_either_all_or_nothing_is_sent(self):
        post = filled(1998)
        market = post.market
        market.add_event("flood")
        market.add_insurer("c")
        market.add_treaty("a", ("share", 500), (("c", 1), ("b", 1)))
        market.terminate(0)
        market.set_loss("flood", "a", 6)
        unchanged(self, post, TooMany, post.send, "a")
        self.assertEqual([post.last_sent(number, event) for number in (0, 1) for event in market.events],
                         [(1, EIGHT), (0, ()), (0, ()), (0, ())])
        market.set_loss("flood", "a", 0)
        unchanged(self, post, TooMany, post.send, "a")
        market.set_loss("storm", "a", 1)
        self.assertEqual(post.send("a"), (1999,))
        self.assertEqual(post.last_sent(0, "storm"), (2, ()))

    def test_no_such_name_before_too_many(self):
        post = filled(2000)
        for action in (post.send, post.resend):
            self.assertEqual(unchanged(self, post, NoSuchName, action, "x").name, "x")


class ErrorsTest(unittest.TestCase):
    def test_no_such_insurer(self):
        post = Post(web())
        for action in (post.send, post.resend):
            for name in ("x", "storm", "", "A"):
                self.assertEqual(unchanged(self, post, NoSuchName, action, name).name, name)

    def test_no_such_event(self):
        post = Post(web())
        for action in (post.estimated_positions, post.settle):
            for name in ("x", "a", "", "Storm"):
                self.assertEqual(unchanged(self, post, NoSuchName, action, name).name, name)

    def test_no_such_event_before_no_such_insurer(self):
        post = Post(web())
        for action in (post.estimated, post.cash):
            self.assertEqual(unchanged(self, post, NoSuchName, action, "x", "a").name, "x")
            self.assertEqual(unchanged(self, post, NoSuchName, action, "storm", "x").name, "x")
            self.assertEqual(unchanged(self, post, NoSuchName, action, "a", "storm").name, "a")

    def test_no_such_treaty(self):
        post = Post(web())
        for number in (6, -1, 16, 10 ** 30, True, False):
            self.assertIs(unchanged(self, post, NoSuchTreaty, post.last_sent, number, "storm").number, number)
        self.assertEqual(caught(self, NoSuchTreaty, Post(market_of(())).last_sent, 0, "storm").number, 0)

    def test_no_such_name_before_no_such_treaty(self):
        post = Post(web())
        self.assertEqual(unchanged(self, post, NoSuchName, post.last_sent, 0, "x").name, "x")
        self.assertEqual(unchanged(self, post, NoSuchName, post.last_sent, 6, "x").name, "x")
