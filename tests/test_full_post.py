"""Points 19 and 24 where there are many notices: they are sent one at a time, and soon."""

import time
import unittest

from spiraldue.errors import NoSuchNotice, TooMany
from spiraldue.post import Post
from tests.helper import caught, market_of, seen, unchanged

MOST_SECONDS = 0.6


def many_notices(many=2000):
    """A post with so many notices of one treaty, sent one at a time, and what was told of their numbers."""
    market = market_of(("north", "south"), ("flood",))
    market.add_treaty("north", ("share", 50), (("south", 2),))
    market.set_loss("flood", "north", 10000)
    post = Post(market)
    numbers = [post.send("north")]
    while len(numbers) < many:
        numbers.append(post.resend("north"))
    return post, numbers


class OneAtATimeTest(unittest.TestCase):
    def test_numbers(self):
        post, numbers = many_notices()
        self.assertEqual(numbers, [(number,) for number in range(1, 2001)])
        self.assertEqual((len(post), list(post)), (2000, list(range(1, 2001))))
        self.assertEqual([post.notice(number) for number in post], [("south", 0, "flood", 1, ((0, 500),))] * 2000)
        self.assertEqual(post.pending(), ((), tuple(range(1, 2001))))

    def test_one_more_is_too_many(self):
        post, _ = many_notices()
        post.drop(7)
        unchanged(self, post, TooMany, post.resend, "north")
        self.assertEqual((len(post), list(post)), (2000, [number for number in range(1, 2001) if number != 7]))
        self.assertEqual(caught(self, NoSuchNotice, post.notice, 7).number, 7)
        self.assertEqual(post.last_sent(0, "flood"), (1, ((0, 500),)))

    def test_what_was_sent_ahead_stays(self):
        post, _ = many_notices(1998)
        post.market.set_loss("flood", "north", 20000)
        self.assertEqual((post.send("north"), post.resend("north")), ((1999,), (2000,)))
        self.assertEqual([post.notice(number)[3:] for number in (1, 1998, 1999, 2000)],
                         [(1, ((0, 500),))] * 2 + [(2, ((0, 1000),))] * 2)
        self.assertEqual((post.deliver(2000), post.deliver(1), post.pending()), (True, False, ((), ())))

    def test_all_dropped(self):
        post, _ = many_notices()
        for number in range(2000, 0, -1):
            post.drop(number)
            self.assertEqual(caught(self, NoSuchNotice, post.deliver, number).number, number)
        self.assertEqual((len(post), list(post), post.pending()), (2000, [], ((), ())))
        unchanged(self, post, TooMany, post.resend, "north")

    def test_soon_enough(self):
        # Not by the clock on the wall, since what else the machine does must not count.
        start = time.process_time()
        for _ in range(20):
            post, _ = many_notices()
            post.drop(7)
            self.assertRaises(TooMany, post.resend, "north")
            self.assertEqual(len(post), 2000)
        self.assertLessEqual(time.process_time() - start, MOST_SECONDS)


class TrialTest(unittest.TestCase):
    def fill(self, post):
        """Drops notices and resends until no more can be sent."""
        post.drop(2)
        while len(post) < 2000:
            post.resend("north")
        post.drop(1)
        post.drop(2000)

    def test_filled_within_a_trial(self):
        post, _ = many_notices(3)
        before = seen(post)
        with post.tried():
            self.fill(post)
            self.assertEqual(list(post), list(range(3, 2000)))
        self.assertEqual(seen(post), before)
        self.assertEqual((post.resend("north"), list(post)), ((4,), [1, 2, 3, 4]))

    def test_filled_within_a_trial_that_an_error_leaves(self):
        post, _ = many_notices(3)
        before = seen(post)
        with self.assertRaises(TooMany):
            with post.tried():
                self.fill(post)
                post.resend("north")
        self.assertEqual(seen(post), before)

    def test_each_change_of_the_notices_ahead_of_a_trial_and_behind_it(self):
        for change in (lambda post: post.resend("north"), lambda post: post.drop(2)):
            post, _ = many_notices(3)
            before = seen(post)
            trial = post.tried()
            for _ in range(2):
                change(post)
                with trial:
                    self.assertNotEqual(seen(post), before)
                self.assertEqual(seen(post), before)

    def test_each_trial_has_its_own_notices(self):
        post, _ = many_notices(3)
        kept = []
        for change in (lambda: post.resend("north"), lambda: post.drop(2), lambda: post.drop(4),
                       lambda: post.resend("north")):
            kept.append((post.tried(), seen(post)))
            change()
            post.foresee([1, "north"])
        for trial, before in kept[::2] + kept[::-1] + kept:
            post.resend("north")
            with trial:
                post.drop(1)
                post.resend("north")
            self.assertEqual(seen(post), before)

    def test_a_trial_within_itself(self):
        post, _ = many_notices(3)
        before = seen(post)
        trial = post.tried()
        with trial:
            post.resend("north")
            with trial:
                post.drop(3)
            self.assertEqual(seen(post), before)
            self.assertEqual(post.resend("north"), (4,))
        self.assertEqual(seen(post), before)


class TooManyInARunTest(unittest.TestCase):
    def test_foreseen(self):
        post, _ = many_notices(1999)
        post.market.set_loss("flood", "north", 20000)
        self.assertEqual(post.foresee([1, "north", 1]), 3)
        post.resend("north")
        unchanged(self, post, TooMany, post.foresee, [1, "north"])
        self.assertEqual((len(post), post.foresee([1, 2000])), (2000, 2))


if __name__ == "__main__":
    unittest.main()
