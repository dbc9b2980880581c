"""Points 22 and 24: runs, trials, foreseeing."""

import unittest

from spiraldue.errors import NoSuchName, NoSuchNotice, TooMany
from spiraldue.post import Post
from tests.helper import FULL, OUT, TO_B, caught, drive, example, market_of, seen, unchanged

ROUND = ["a", 1, "b", 2, "a", 3, "b", 4, "a", 5, "b", 6]


def unheard():
    """A post over a, who has told b of a loss of 8, and has a loss of 9 to tell of."""
    market = market_of(("a", "b"), ("storm", "flood"))
    market.add_treaty("a", FULL, TO_B)
    market.add_treaty("b", ("share", 500), OUT)
    market.set_loss("storm", "a", 8)
    post = Post(market)
    post.send("a")
    post.settle("storm")
    market.set_loss("storm", "a", 9)
    return post


def full_post():
    """A post over a, who has a change to tell of but has sent 2000 notices."""
    post = unheard()
    while len(post) < 2000:
        post.resend("a")
    return post


class RunTest(unittest.TestCase):
    def test_texts_send_and_integers_deliver(self):
        post, other = Post(example()), Post(example())
        self.assertEqual(post.run(ROUND), 12)
        for action in ROUND:
            other.send(action) if isinstance(action, str) else other.deliver(action)
        self.assertEqual(seen(post), seen(other))
        self.assertEqual(ROUND, ["a", 1, "b", 2, "a", 3, "b", 4, "a", 5, "b", 6])

    def test_as_long_as_the_post_is_not_quiet(self):
        post = unheard()
        self.assertEqual(post.run(["a", "b", 2, "b", "a", "x", 99, 1, 2]), 4)
        self.assertIs(post.is_quiet(), True)
        self.assertEqual(len(post), 2)
        self.assertEqual(post.run(["x", 99, "a"]), 0)

    def test_actions_that_change_nothing_count(self):
        post = unheard()
        self.assertEqual(post.run(["b", 1, 1, "b", "b", 1, "b"]), 7)
        self.assertEqual(len(post), 1)

    def test_no_actions(self):
        post = unheard()
        before = seen(post)
        self.assertEqual((post.run([]), seen(post)), (0, before))

    def test_what_was_done_ahead_of_an_error_stays(self):
        for action, error in (("x", NoSuchName), ("storm", NoSuchName), (0, NoSuchNotice), (3, NoSuchNotice),
                              (-1, NoSuchNotice)):
            post, other = unheard(), unheard()
            found = caught(self, error, post.run, ["a", 1, action, 2])
            self.assertEqual(found.name if error == NoSuchName else found.number, action)
            other.send("a"), other.deliver(1)
            self.assertEqual(seen(post), seen(other))

    def test_a_dropped_notice(self):
        post = unheard()
        post.drop(1)
        self.assertEqual(caught(self, NoSuchNotice, post.run, ["a", 2, 1]).number, 1)
        self.assertEqual(post.estimated("storm", "b"), ((1, 9),))

    def test_too_many(self):
        post = full_post()
        caught(self, TooMany, post.run, [2000, "b", "a", 1])
        self.assertEqual((len(post), post.pending()), (2000, (("a",), ())))
        self.assertEqual((post.estimated("storm", "b"), post.last_sent(1, "storm")), (((1, 8),), (1, ((1, 4),))))


class ForeseeTest(unittest.TestCase):
    def check(self, post, actions, wanted):
        before = seen(post)
        given = list(actions)
        self.assertEqual(post.foresee(actions), wanted)
        self.assertEqual((seen(post), actions), (before, given))
        self.assertEqual(post.run(actions), wanted)

    def test_how_many_would_be_performed(self):
        self.check(Post(example()), ROUND, 12)
        self.check(unheard(), ["a", "b", 2, "b", "a", "x", 99, 1, 2], 4)
        self.check(unheard(), [], 0)
        self.check(unheard(), ["b", 1, "b"], 3)

    def test_nothing_changes_behind_an_error(self):
        for actions, error in ((["a", 1, "x"], NoSuchName), (["a", 2, 9], NoSuchNotice)):
            post = unheard()
            unchanged(self, post, error, post.foresee, actions)
        post = full_post()
        unchanged(self, post, TooMany, post.foresee, [2000, "b", "a"])

    def test_foreseen_numbers_are_used_later(self):
        post = unheard()
        self.assertEqual(post.foresee(["a"]), 1)
        self.assertEqual(post.send("a"), (2,))


class TrialTest(unittest.TestCase):
    def change(self, post):
        """Changes all that can be changed of a post and its market."""
        market = post.market
        market.add_insurer("z")
        market.add_event("quake")
        market.add_treaty("z", FULL, (("a", 2), ("b", 1)))
        market.terminate(0)
        market.set_loss("quake", "z", 7)
        market.set_loss("storm", "a", 3)
        for name in market.insurers:
            post.send(name)
            post.resend(name)
        for number in post:
            post.deliver(number)
        post.drop(1)
        post.settle("storm")

    def test_the_value_is_the_post(self):
        post = unheard()
        with post.tried() as held:
            self.assertIs(held, post)

    def test_behind_it_all_is_as_it_was(self):
        for post in (unheard(), Post(unheard().market)):
            before, market = seen(post), post.market
            with post.tried():
                self.change(post)
                self.assertNotEqual(seen(post), before)
            self.assertEqual(seen(post), before)
            self.assertIs(post.market, market)
            self.change(post)

    def test_each_change_alone(self):
        deeds = (lambda post: post.send("a"), lambda post: post.resend("a"), lambda post: post.deliver(1),
                 lambda post: post.drop(1), lambda post: post.deliver(1) and post.settle("storm"),
                 lambda post: post.run(["a", 2]), lambda post: post.market.add_insurer("z"),
                 lambda post: post.market.add_event("quake"), lambda post: post.market.add_treaty("b", FULL, OUT),
                 lambda post: post.market.terminate(1), lambda post: post.market.set_loss("flood", "b", 1))
        for deed in deeds:
            post = unheard()
            before = seen(post)
            with post.tried():
                deed(post)
                self.assertNotEqual(seen(post), before)
            self.assertEqual(seen(post), before)

    def test_an_error_passes_and_all_is_as_it_was(self):
        post = unheard()
        before = seen(post)
        with self.assertRaises(KeyError):
            with post.tried():
                self.change(post)
                raise KeyError("x")
        self.assertEqual(seen(post), before)
        with self.assertRaises(NoSuchName):
            with post.tried():
                post.send("a")
                post.send("x")
        self.assertEqual(seen(post), before)

    def test_as_when_the_trial_was_made(self):
        post = unheard()
        before = seen(post)
        trial = post.tried()
        self.change(post)
        with trial:
            post.send("a")
        self.assertEqual(seen(post), before)

    def test_a_trial_that_is_not_entered_changes_nothing(self):
        post = unheard()
        post.tried()
        self.change(post)
        behind = seen(post)
        post.tried()
        self.assertEqual(seen(post), behind)

    def test_a_trial_used_again(self):
        post = unheard()
        before = seen(post)
        trial = post.tried()
        for _ in range(3):
            with trial:
                self.change(post)
            self.assertEqual(seen(post), before)

    def test_trials_in_trials(self):
        post = unheard()
        before = seen(post)
        with post.tried():
            post.send("a")
            post.market.set_loss("flood", "b", 5)
            within = seen(post)
            with post.tried():
                self.change(post)
            self.assertEqual(seen(post), within)
            post.foresee([2, "b"])
            self.assertEqual(seen(post), within)
        self.assertEqual(seen(post), before)

    def test_what_was_told_ahead_stays(self):
        post = unheard()
        drive(post)
        before = seen(post)
        with post.tried():
            self.change(post)
            self.assertIs(post.is_quiet(), False)
        self.assertEqual(seen(post), before)
        self.assertIs(post.is_quiet(), True)

    def test_numbers_go_on_from_where_they_were(self):
        post = unheard()
        with post.tried():
            self.assertEqual((post.send("a"), post.resend("a")), ((2,), (3,)))
        self.assertEqual((post.send("a"), post.last_sent(0, "storm")[0]), ((2,), 2))
