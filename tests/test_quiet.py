"""Points 15 to 23 together: posts over which anything is done, next to the plain telling of the document; point 21."""

import unittest
from random import Random

from spiraldue.post import Post
from spiraldue.schedules import amounts_of
from spiraldue.spiral import positions
from tests.helper import (PlainPost, change_market, drive, example, plain_rows, random_market, ring, seen, web)


def deed(source, post):
    """The name of a method of a post and its argument, so that something of each kind is done with it."""
    kind = source.random()
    numbers = list(post)
    if kind < 0.35 or not numbers:
        return "send", source.choice(post.market.insurers)
    if kind < 0.45:
        return "resend", source.choice(post.market.insurers)
    if kind < 0.8:
        return "deliver", source.choice(numbers[-8:] if source.random() < 0.7 else numbers)
    if kind < 0.9:
        return "drop", source.choice(numbers)
    return "settle", source.choice(post.market.events)


class PlainTest(unittest.TestCase):
    def test_as_the_plain_telling(self):
        for seed in range(30):
            source, market = Random(seed), random_market(seed, 4, 2, 12)
            post, plain = Post(market), PlainPost(market)
            for step in range(48):
                if source.random() < 0.1:
                    change_market(source, market)
                method, value = deed(source, post)
                self.assertEqual(getattr(post, method)(value), getattr(plain, method)(value), (seed, step))
                if step % 6 == 5:
                    for one, other in zip(seen(post), plain.seen()):
                        self.assertEqual(one, other, (seed, step))


class QuietTest(unittest.TestCase):
    def check(self, post):
        """A quiet post must tell the rounds."""
        market = post.market
        self.assertIs(post.is_quiet(), True)
        self.assertEqual(post.pending()[0], ())
        self.assertEqual(post.pending()[1], ())
        for event in market.events:
            rows = plain_rows(market, event)
            for index, name in enumerate(market.insurers):
                self.assertEqual(amounts_of(post.estimated(event, name)), tuple(row[index] for row in rows))
            self.assertEqual(post.estimated_positions(event), positions(market, event))

    def test_markets_of_many_kinds(self):
        for market in (example(), web(), ring(100, 1), ring(99, 1, "b")):
            post = Post(market)
            drive(post)
            self.check(post)

    def test_with_as_many_rounds_as_there_may_be(self):
        post = Post(ring(100, 1))
        drive(post)
        self.assertEqual(post.estimated("storm", "a"), tuple((2 * number, number + 1) for number in range(101)))

    def test_whatever_was_done_before(self):
        quiet = 0
        for seed in range(40):
            source, market = Random(seed), random_market(seed, 4, 2, 12)
            post = Post(market)
            for _ in range(60):
                self.work(source, post)
                if post.is_quiet():
                    quiet += 1
                    self.check(post)
            drive(post)
            self.check(post)
        self.assertGreater(quiet, 40)

    def work(self, source, post):
        """Sends, delivers, drops or corrects something."""
        insurers, numbers = post.pending()
        kind = source.random()
        if kind < 0.05:
            change_market(source, post.market)
        elif kind < 0.1 and len(post) > 0:
            for number in list(post)[:2]:
                post.deliver(number)
                post.drop(number)
        elif kind < 0.25:
            method, value = deed(source, post)
            getattr(post, method)(value)
        elif numbers and kind < 0.7:
            for number in sorted(numbers, key=lambda _: source.random()):
                post.deliver(number)
        else:
            for name in insurers:
                post.send(name)

    def test_runs_to_quiet(self):
        for seed in range(10):
            market = random_market(seed)
            post = Post(market)
            actions = [action for round_ in range(300) for action in market.insurers]
            total = 0
            while not post.is_quiet():
                total += post.run(list(post.pending()[1]) + list(actions[:len(market.insurers)]))
            self.check(post)
            self.assertEqual(post.run(actions), 0)
            self.assertGreaterEqual(total, len(post) // 2)
