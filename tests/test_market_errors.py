"""Point 10: each error of a change, their order, and the market behind it."""

import unittest

from spiraldue.errors import (BadAmount, BadCover, BadName, BadPanel, NameTaken, NoEnd, NoSuchName, NoSuchTreaty,
                              OwnPanel, TooMany, TreatyEnded, Twice)
from tests.helper import FULL, market_of, refused

NO_NAMES = ("", "abcdefghijklm", "A", "aB", "a b", "a1", "1", "a_", "a-b", " a", "a\n", "\n", "\u00e9", "a\u0131", "\u0430",
            None, 1, 0, True, b"a", ("a",), ["a"], {}, ())
NO_AMOUNTS = (-1, 100001, 10 ** 30, True, False, "5", None, 5.0, (5,), [], b"5")
PANEL = (("b", 1),)
LAYER = ("layer", 10, 20)


def full_market():
    """A market with as many insurers, events and treaties as there may be."""
    market = market_of("abcdef", ("x", "y", "z"))
    for _ in range(16):
        market.add_treaty("a", LAYER, PANEL)
    return market


def ring():
    """A market in which a loss of a, once there is one, goes round without end."""
    market = market_of(("a", "b", "c"), ("storm", "flood"))
    market.add_treaty("a", FULL, PANEL)
    market.add_treaty("b", FULL, (("a", 1),))
    return market


class NamesTest(unittest.TestCase):
    def test_bad_names(self):
        market = market_of(("a", "b"))
        for name in NO_NAMES:
            with self.subTest(name=name):
                refused(self, market, BadName, market.add_insurer, name)
                refused(self, market, BadName, market.add_event, name)

    def test_too_many(self):
        market = market_of("abcdef", ("x", "y", "z"))
        refused(self, market, TooMany, market.add_insurer, "g")
        refused(self, market, TooMany, market.add_event, "w")

    def test_name_taken(self):
        market = market_of(("a", "b"), ("storm", "flood"))
        self.assertEqual(refused(self, market, NameTaken, market.add_insurer, "b").name, "b")
        self.assertEqual(refused(self, market, NameTaken, market.add_event, "storm").name, "storm")

    def test_bad_name_before_too_many(self):
        market = full_market()
        refused(self, market, BadName, market.add_insurer, "A")
        refused(self, market, BadName, market.add_event, "A")

    def test_too_many_before_name_taken(self):
        market = full_market()
        refused(self, market, TooMany, market.add_insurer, "a")
        refused(self, market, TooMany, market.add_event, "x")


class TreatyErrorsTest(unittest.TestCase):
    def check(self, error, cedent, cover, panel, market=None):
        market = market or ring()
        return refused(self, market, error, market.add_treaty, cedent, cover, panel)

    def test_bad_names(self):
        for name in NO_NAMES:
            self.check(BadName, name, LAYER, PANEL)

    def test_bad_covers(self):
        for cover in (("share", 0), ("share", 1001), ("layer", 0, 0), ["share", 5], None, 5, ("share", True), "share"):
            self.check(BadCover, "a", cover, PANEL)

    def test_panels_beyond_their_limits(self):
        seven = tuple((name, 1) for name in "bcdefgh")
        for panel in ((), seven, (("b", 0),), (("b", 101),), (("b", -1),), (("b", 100), (None, 1)),
                      (("b", 50), ("c", 51)), ((None, 0),), ((None, 101),), ((None, 60), ("b", 41))):
            self.check(BadPanel, "a", LAYER, panel)

    def test_values_that_are_no_panel(self):
        for panel in (None, 5, "b", [("b", 1)], {"b": 1}, ("b", 1), (("b",),), (("b", 1, 1),), (["b", 1],), ("b1",),
                      ((),), (None,), (5,), (("b", 1), None), (("b", "1"),), (("b", None),), (("b", True),),
                      (("b", 1.0),), (("b", [1]),), ((None, False),)):
            with self.subTest(panel=panel):
                self.check(BadPanel, "a", LAYER, panel)

    def test_participants_that_are_neither_a_name_nor_none(self):
        for name in NO_NAMES:
            if name is not None:
                self.check(BadPanel, "a", LAYER, ((name, 1),))
                self.check(BadPanel, "a", LAYER, (("b", 1), (name, 1)))

    def test_no_such_name(self):
        self.assertEqual(self.check(NoSuchName, "x", LAYER, PANEL).name, "x")
        self.assertEqual(self.check(NoSuchName, "storm", LAYER, PANEL).name, "storm")
        self.assertEqual(self.check(NoSuchName, "a", LAYER, (("x", 1),)).name, "x")
        self.assertEqual(self.check(NoSuchName, "a", LAYER, ((None, 1), ("b", 1), ("flood", 1))).name, "flood")

    def test_twice(self):
        for panel in ((("b", 1), ("b", 1)), (("b", 1), ("c", 1), ("b", 2)), ((None, 1), (None, 1)),
                      ((None, 1), ("b", 1), (None, 2))):
            self.check(Twice, "a", LAYER, panel)

    def test_own_panel(self):
        for panel in ((("a", 1),), (("b", 1), (None, 1), ("a", 1))):
            self.check(OwnPanel, "a", LAYER, panel)

    def test_too_many(self):
        self.check(TooMany, "a", LAYER, PANEL, full_market())
        self.check(TooMany, "b", LAYER, (("a", 1),), full_market())

    def test_too_many_with_ended_ones(self):
        market = full_market()
        market.terminate(3)
        self.check(TooMany, "a", LAYER, PANEL, market)

    def test_bad_name_before_all(self):
        self.check(BadName, "A", None, PANEL)
        self.check(BadName, "A", LAYER, None)
        self.check(BadName, "A", LAYER, (("x", 1),))
        self.check(BadName, None, LAYER, ((None, 1),))

    def test_bad_cover_before_what_follows(self):
        self.check(BadCover, "a", None, None)
        self.check(BadCover, "x", None, PANEL)

    def test_bad_panel_before_what_follows(self):
        self.check(BadPanel, "x", LAYER, None)
        self.check(BadPanel, "a", LAYER, (("x", 1), ("B", 1)))
        self.check(BadPanel, "a", LAYER, (("b", 100), ("b", 100)))

    def test_no_such_name_in_order(self):
        self.assertEqual(self.check(NoSuchName, "z", LAYER, (("x", 1),)).name, "z")
        self.assertEqual(self.check(NoSuchName, "x", LAYER, (("z", 1),)).name, "x")
        self.assertEqual(self.check(NoSuchName, "a", LAYER, (("b", 1), ("z", 1), ("x", 1))).name, "z")
        self.assertEqual(self.check(NoSuchName, "a", LAYER, (("x", 1), ("b", 1), ("z", 1))).name, "x")

    def test_no_such_name_before_what_follows(self):
        self.assertEqual(self.check(NoSuchName, "z", LAYER, (("b", 1), ("b", 1))).name, "z")
        self.assertEqual(self.check(NoSuchName, "a", LAYER, (("x", 1), ("x", 1))).name, "x")
        self.assertEqual(self.check(NoSuchName, "a", LAYER, (("b", 1), ("b", 1), ("x", 1))).name, "x")
        self.assertEqual(self.check(NoSuchName, "x", LAYER, (("x", 1),)).name, "x")
        self.assertEqual(self.check(NoSuchName, "a", LAYER, (("a", 1), ("x", 1))).name, "x")

    def test_twice_before_what_follows(self):
        self.check(Twice, "a", LAYER, (("a", 1), ("a", 1)))
        self.check(Twice, "a", LAYER, (("a", 1), ("b", 1), ("b", 1)))
        self.check(Twice, "a", LAYER, (("b", 1), ("b", 1)), full_market())

    def test_own_panel_before_too_many(self):
        self.check(OwnPanel, "a", LAYER, (("a", 1),), full_market())

    def test_too_many_before_no_end(self):
        market = market_of(("a", "b"))
        market.add_treaty("b", FULL, (("a", 1),))
        for _ in range(15):
            market.add_treaty("b", ("share", 1), (("a", 1),))
        market.set_loss("storm", "a", 1)
        self.check(TooMany, "a", FULL, PANEL, market)
        market.treaties = market.treaties[:15]
        self.check(NoEnd, "a", FULL, PANEL, market)


class TerminateErrorsTest(unittest.TestCase):
    def test_no_such_treaty(self):
        market = ring()
        for number in (2, -1, -2, 16, 10 ** 30):
            self.assertEqual(refused(self, market, NoSuchTreaty, market.terminate, number).number, number)
        empty = market_of(())
        for number in (0, -1):
            self.assertEqual(refused(self, empty, NoSuchTreaty, empty.terminate, number).number, number)

    def test_true_and_false_are_no_numbers(self):
        market = ring()
        for number in (True, False):
            self.assertIs(refused(self, market, NoSuchTreaty, market.terminate, number).number, number)

    def test_treaty_ended(self):
        market = ring()
        market.terminate(1)
        self.assertEqual(refused(self, market, TreatyEnded, market.terminate, 1).number, 1)
        market.terminate(0)
        self.assertEqual(refused(self, market, TreatyEnded, market.terminate, 0).number, 0)

    def test_treaty_ended_and_no_such_treaty_before_no_end(self):
        market = ring()
        market.terminate(0)
        market.losses = {("storm", "a"): 10 ** 9 + 1}
        refused(self, market, TreatyEnded, market.terminate, 0)
        refused(self, market, NoSuchTreaty, market.terminate, 2)
        refused(self, market, NoEnd, market.terminate, 1)


class LossErrorsTest(unittest.TestCase):
    def check(self, error, event, insurer, amount):
        market = ring()
        market.set_loss("storm", "c", 8)
        return refused(self, market, error, market.set_loss, event, insurer, amount)

    def test_bad_names(self):
        for name in NO_NAMES:
            self.check(BadName, name, "a", 5)
            self.check(BadName, "storm", name, 5)

    def test_bad_amounts(self):
        for amount in NO_AMOUNTS:
            self.check(BadAmount, "storm", "c", amount)

    def test_no_such_name(self):
        self.assertEqual(self.check(NoSuchName, "x", "a", 5).name, "x")
        self.assertEqual(self.check(NoSuchName, "storm", "x", 5).name, "x")

    def test_names_of_the_other_kind(self):
        self.assertEqual(self.check(NoSuchName, "a", "b", 5).name, "a")
        self.assertEqual(self.check(NoSuchName, "storm", "flood", 5).name, "flood")

    def test_bad_name_before_what_follows(self):
        self.check(BadName, "A", "a", -1)
        self.check(BadName, "storm", "A", -1)
        self.check(BadName, "A", "x", 5)
        self.check(BadName, "x", "A", 5)

    def test_bad_amount_before_no_such_name(self):
        self.check(BadAmount, "x", "a", -1)
        self.check(BadAmount, "storm", "x", 100001)

    def test_no_such_event_before_no_such_insurer(self):
        self.assertEqual(self.check(NoSuchName, "x", "z", 5).name, "x")
        self.assertEqual(self.check(NoSuchName, "z", "x", 5).name, "z")

    def test_bad_amount_and_no_such_name_before_no_end(self):
        self.check(NoEnd, "storm", "a", 1)
        self.check(BadAmount, "storm", "a", 100001)
        market = ring()
        market.losses = {("storm", "c"): 10 ** 9 + 1}
        refused(self, market, NoSuchName, market.set_loss, "storm", "x", 1)
        refused(self, market, NoEnd, market.set_loss, "storm", "b", 0)
