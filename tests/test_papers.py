"""Points 25 to 27: papers and their judges."""

import unittest
from functools import cache
from itertools import product

from spiraldue.errors import NoEnd, NoSuchName
from spiraldue.papers import explain_least, explain_unit, judge_least, judge_unit
from spiraldue.spiral import next_round, path, rounds, settled
from tests.helper import (FULL, JUNK, TO_A, TO_B, caught, example, market_of, plain_rows, plain_way, random_market,
                          ring, state, web)

ROWS = rounds(example(), "storm")
LEAST = (170, 70)
WAY = (("a", 0), ("b", 1), ("a", 0), ("b", 1))
END = ("external", 1)


def small():
    """A market with losses so small that all states around them can be looked at."""
    market = market_of(("a", "b"))
    market.add_treaty("a", ("share", 500), TO_B)
    market.add_treaty("b", ("layer", 2, 9), (("a", 2), (None, 1)))
    market.set_loss("storm", "a", 6)
    market.set_loss("storm", "b", 1)
    return market


def endless():
    """A market in which a loss of a or b would go round without end."""
    market = market_of(("a", "b", "c"))
    market.add_treaty("a", FULL, TO_B)
    market.add_treaty("b", FULL, TO_A)
    return market


@cache
def markets():
    """Pairs of a market and an event, of many kinds."""
    found = [example(), web(), ring(100, 1), small(), endless(), market_of(("a",))]
    found += [random_market(seed) for seed in range(30)]
    return [(market, event) for market in found for event in market.events]


def spoiled(value):
    """Values like this one, with something of any kind in each of its places, or one place more or less."""
    found = list(JUNK)
    if isinstance(value, tuple):
        found += [list(value), value + (None,), value[:-1], value + value[-1:]]
        for index, part in enumerate(value):
            found += [value[:index] + (other,) + value[index + 1:] for other in spoiled(part)]
    elif isinstance(value, int):
        found += [value + 1, value - 1, float(value), str(value), bool(value)]
    elif isinstance(value, str):
        found += [value + "x", value.upper(), value[:1], value.encode()]
    return found


def same(one, other):
    """Whether two values are equal, also in their kinds."""
    if isinstance(one, tuple) and isinstance(other, tuple):
        return len(one) == len(other) and all(same(a, b) for a, b in zip(one, other))
    return type(one) is type(other) and one == other


class LeastTest(unittest.TestCase):
    def taken(self, state, paper, market=None):
        found = judge_least(market or example(), "storm", state, paper)
        self.assertIs(type(found), bool)
        return found

    def test_rounds(self):
        self.assertTrue(self.taken(LEAST, ("rounds", ROWS)))
        self.assertTrue(self.taken(LEAST, ("rounds", ROWS + (LEAST,))))
        self.assertTrue(self.taken(LEAST, ("rounds", ROWS + (LEAST,) * 300)))

    def test_rounds_that_are_not_the_rounds(self):
        for rows in ((), (LEAST,), ROWS[1:], ROWS[:-1], ROWS[:1] + ROWS[2:], ROWS[:2] + ROWS[1:], ROWS[::-1],
                     ROWS + (ROWS[0],), ROWS[:3] + ((165, 66),) + ROWS[4:], ROWS[:-2] + ROWS[-1:]):
            for state in (LEAST, rows[-1] if rows else LEAST):
                self.assertFalse(self.taken(state, ("rounds", rows)))

    def test_rounds_up_to_another_state(self):
        for gross in ((170, 71), (171, 70), (169, 70), (160, 0), (165, 65)):
            self.assertFalse(self.taken(gross, ("rounds", ROWS)))
            self.assertFalse(self.taken(gross, ("rounds", ROWS[:-1] + (gross,))))
            self.assertFalse(self.taken(gross, ("rounds", ROWS + (gross,))))

    def test_rounds_of_another_beginning(self):
        market = endless()
        self.assertEqual(next_round(market, "storm", (7, 7, 0)), (7, 7, 0))
        self.assertFalse(self.taken((7, 7, 0), ("rounds", ((7, 7, 0),)), market))
        self.assertFalse(self.taken((7, 7, 0), ("rounds", ((0, 0, 0), (7, 7, 0))), market))
        self.assertTrue(self.taken((7, 7, 0), ("lower", (0, 0, 0)), market))
        self.assertTrue(self.taken((7, 7, 0), ("lower", (6, 6, 0)), market))
        self.assertTrue(self.taken((7, 7, 0), ("lower", (6, 6, 5)), market))
        self.assertFalse(self.taken((7, 7, 0), ("lower", (7, 7, 5)), market))
        self.assertFalse(self.taken((7, 7, 0), ("lower", (6, 7, 0)), market))

    def test_lower(self):
        for gross in ((171, 70), (170, 71), (300, 0), (0, 300), (10 ** 9, 10 ** 9)):
            self.assertTrue(self.taken(gross, ("lower", LEAST)))
            self.assertFalse(self.taken(gross, ("lower", gross if gross != (10 ** 9,) * 2 else (0, 0))))
        for gross in (LEAST, (169, 70), (0, 0), (170, 69)):
            self.assertFalse(self.taken(gross, ("lower", LEAST)))
        for other in ((169, 70), (170, 69), (0, 0), (160, 0)):
            self.assertFalse(self.taken((300, 300), ("lower", other)))
        for other in ((172, 72), (171, 71), (399, 299), (299, 10 ** 9)):
            self.assertTrue(self.taken((300, 300), ("lower", other)))
        for other in ((300, 300), (301, 300), (10 ** 9, 10 ** 9), (10 ** 9, 299), (399, 298),
                      (299, 10 ** 9 + 1), (172, 72, 0), (172,)):
            self.assertFalse(self.taken((300, 300), ("lower", other)))

    def test_open(self):
        for gross, names in (((160, 0), "b"), ((0, 0), "a"), ((165, 60), "b"), ((160, 60), "a"), (LEAST, ""),
                             ((171, 71), ""), ((0, 300), "a"), ((300, 0), "b"), ((159, 50), "ab")):
            for name in "ab":
                self.assertIs(self.taken(gross, ("open", name)), name in names)
            for name in ("x", "", "storm", "A", "ab"):
                self.assertFalse(self.taken(gross, ("open", name)))

    def test_states_that_are_none(self):
        papers = (("rounds", ROWS), ("lower", LEAST), ("lower", (172, 72)), ("open", "a"), ("open", "b"))
        for gross in ([170, 70], (170,), (170, 70, 0), (-1, 300), (300, -1), (True, 300), (300, False), (0, False),
                      (10 ** 9 + 1, 0), (0, 10 ** 9 + 1), ("170", 70), (None, 0), (300.0, 300), ((170, 70),), (), None):
            for paper in papers:
                self.assertFalse(self.taken(gross, paper), (gross, paper))
        for gross in ((10 ** 9, 0), (0, 10 ** 9)):
            self.assertTrue(self.taken(gross, ("lower", LEAST)))
        market = market_of(("a", "b"))
        market.set_loss("storm", "a", 1)
        self.assertTrue(self.taken((1, 0), ("rounds", ((1, 0),)), market))
        for gross in ((True, 0), (1, False), (True, False), (1.0, 0)):
            self.assertFalse(self.taken(gross, ("rounds", ((1, 0),)), market))
            self.assertFalse(self.taken((1, 0), ("rounds", (gross,)), market))
            self.assertFalse(self.taken((1, 1), ("lower", gross), market))
        self.assertTrue(self.taken((1, 1), ("lower", (1, 0)), market))

    def test_other_papers(self):
        for paper in (("Rounds", ROWS), ("rounds",), ("rounds", ROWS, ROWS), ["rounds", ROWS], ("rounds", list(ROWS)),
                      ("rounds", tuple([list(row) for row in ROWS])), (("rounds", ROWS),), ("rounds", "rounds"),
                      (b"rounds", ROWS), ("unit", WAY, END), ("least", ROWS), ROWS, "rounds", None, ()):
            self.assertFalse(self.taken(LEAST, paper))
        for paper in (("lower",), ("lower", LEAST, LEAST), ["lower", LEAST], ("lower", list(LEAST)), ("Lower", LEAST),
                      ("lower", 1), ("settled", LEAST)):
            self.assertFalse(self.taken((300, 300), paper))
        for paper in (("open",), ("open", "a", "a"), ["open", "a"], ("open", ["a"]), ("open", ("a",)), ("Open", "a"),
                      ("open", b"a"), ("open", None), ("open", 0), ("", "a"), (0, "a")):
            self.assertFalse(self.taken((0, 0), paper))

    def test_without_insurers(self):
        market = market_of(())
        self.assertTrue(self.taken((), ("rounds", ((),)), market))
        self.assertTrue(self.taken((), explain_least(market, "storm", ()), market))
        for paper in (("rounds", ()), ("lower", ()), ("open", "a"), ("open", None)):
            self.assertFalse(self.taken((), paper, market))

    def test_no_such_event(self):
        for paper in (("rounds", ROWS), None, ("open", [])):
            for gross in (LEAST, None):
                self.assertEqual(caught(self, NoSuchName, judge_least, example(), "a", gross, paper).name, "a")
        self.assertEqual(caught(self, NoSuchName, explain_least, example(), "flood", LEAST).name, "flood")


class SpoiledTest(unittest.TestCase):
    def test_no_judge_of_least_raises_an_error(self):
        market = small()
        least = settled(market, "storm")
        papers = [("rounds", rounds(market, "storm")), ("lower", least), ("open", "a")]
        papers += [paper for one in papers for paper in spoiled(one)]
        states = [least, (9, 9), (0, 0)]
        states += [gross for one in states[:2] for gross in spoiled(one)]
        taken = 0
        for gross in states:
            plain = isinstance(gross, tuple) and [type(loss) for loss in gross] == [int, int]
            for paper in papers:
                found = judge_least(market, "storm", gross, paper)
                self.assertIs(type(found), bool)
                self.assertTrue(plain or not found, (gross, paper))
                if found:
                    self.assertIs(type(paper), tuple)
                    self.assertEqual(gross == least, paper[0] == "rounds")
                    taken += 1
        self.assertGreater(taken, 50)

    def test_no_judge_of_a_unit_raises_an_error(self):
        for market, insurer in ((example(), "a"), (endless(), "a"), (endless(), "c"), (small(), "b")):
            wanted = ("unit", (("a", 0), ("b", 1)), ("external", 1))
            if market.insurers != ("a", "b", "c") or insurer == "c":
                wanted = explain_unit(market, "storm", insurer)
            for paper in [wanted] + spoiled(wanted):
                found = judge_unit(market, "storm", insurer, paper)
                self.assertIs(type(found), bool)
                self.assertEqual(found, same(paper, wanted) and (market.insurers != ("a", "b", "c") or insurer == "c"))


class SoundTest(unittest.TestCase):
    def test_what_is_taken_is_so(self):
        market = small()
        rows = rounds(market, "storm")
        least = rows[-1]
        others = list(product(range(12), repeat=2))
        papers = [("rounds", rows[at:to]) for at in range(len(rows)) for to in range(at, len(rows) + 1)]
        papers += [("lower", other) for other in others] + [("open", name) for name in "abc"]
        for gross in product(range(12), repeat=2):
            taken = [paper for paper in papers if judge_least(market, "storm", gross, paper)]
            self.assertTrue(taken)
            self.assertEqual({paper[0] == "rounds" for paper in taken}, {gross == least})

    def test_lower_and_open_are_as_the_document_says(self):
        market = small()
        for gross in product(range(0, 12, 2), repeat=2):
            behind = next_round(market, "storm", gross)
            for name, loss, needed in zip("ab", gross, behind):
                self.assertEqual(judge_least(market, "storm", gross, ("open", name)), loss < needed)
            for other in product(range(12), repeat=2):
                settles = all(loss >= needed for loss, needed in zip(other, next_round(market, "storm", other)))
                self.assertEqual(judge_least(market, "storm", gross, ("lower", other)),
                                 settles and any(less < loss for less, loss in zip(other, gross)))


class ExplainLeastTest(unittest.TestCase):
    def test_each_kind(self):
        self.assertEqual(explain_least(example(), "storm", LEAST), ("rounds", ROWS))
        for gross in ((171, 70), (0, 10 ** 9), (10 ** 9, 0), (170, 71), (10 ** 9, 10 ** 9), (171, 0)):
            self.assertEqual(explain_least(example(), "storm", gross)[0], "lower")
        for gross in ((0, 0), (160, 0), (169, 70), (170, 69)):
            self.assertEqual(explain_least(example(), "storm", gross)[0], "open")

    def test_it_is_taken(self):
        kinds = []
        for market, event in markets():
            before = state(market)
            rows = plain_rows(market, event)
            least = rows[-1]
            states = set(rows) | set(product((0, 5, 10 ** 9), repeat=len(market.insurers)))
            states |= {least[:at] + (max(loss + more, 0),) + least[at + 1:]
                       for at, loss in enumerate(least) for more in (-1, 1)}
            for gross in sorted(states):
                paper = explain_least(market, event, gross)
                kinds.append(paper[0])
                self.assertIs(judge_least(market, event, gross, paper), True)
                self.assertEqual(paper[0] == "rounds", gross == least)
            self.assertEqual(state(market), before)
        for kind in ("rounds", "lower", "open"):
            self.assertGreater(kinds.count(kind), 20)


class UnitTest(unittest.TestCase):
    def taken(self, paper, insurer="a", market=None):
        found = judge_unit(market or example(), "storm", insurer, paper)
        self.assertIs(type(found), bool)
        return found

    def test_the_way_and_its_bearer(self):
        self.assertTrue(self.taken(("unit", WAY, END)))
        self.assertEqual(explain_unit(example(), "storm", "a"), ("unit", WAY, END))
        self.assertTrue(self.taken(("unit", (), ("insurer", "a")), "a", market_of(("a",))))
        self.assertFalse(self.taken(("unit", WAY, END), "b"))
        self.assertTrue(self.taken(("unit", WAY[1:], END), "b"))

    def test_other_papers(self):
        for paper in (("unit", WAY[:2], END), ("unit", WAY[:-1], END), ("unit", WAY + WAY[-1:], END), ("unit", (), END),
                      ("unit", WAY + WAY[:2], END), ("unit", WAY[2:] + WAY[:1], END), ("unit", WAY[1:], END),
                      ("unit", WAY, ("external", 0)), ("unit", WAY, ("insurer", "b")),
                      ("unit", WAY, ("external", 1, 1)),
                      ("unit", WAY, "external"), ("unit", WAY, None), ("unit", WAY), ("unit", WAY, END, END),
                      ("unit", END, WAY), ("Unit", WAY, END), ("rounds", WAY, END), (None, WAY, END), None, "unit",
                      ["unit", WAY, END], ("unit", list(WAY), END), ("unit", WAY, list(END)),
                      ("unit", tuple([list(pair) for pair in WAY]), END), ("unit", WAY, ("external", True)),
                      ("unit", WAY, ("external", 1.0)), ("unit", WAY, ("external", "1")),
                      ("unit", (("a", False), ("b", True)) * 2, END), ("unit", (("a", 0.0), ("b", 1)) * 2, END),
                      ("unit", (("a", 0, 0),) + WAY[1:], END), ("unit", (("a",),) + WAY[1:], END)):
            self.assertFalse(self.taken(paper), paper)

    def test_where_the_rounds_do_not_come_to_an_end_nothing_is_taken(self):
        for paper in (("unit", (), ("insurer", "a")), ("unit", (("a", 0), ("b", 1)), ("insurer", "a")), None,
                      ("unit", (("a", 0), ("b", 1)) * 100, ("insurer", "a"))):
            self.assertFalse(self.taken(paper, "a", endless()))
        caught(self, NoEnd, explain_unit, endless(), "storm", "a")
        self.assertEqual(explain_unit(endless(), "storm", "c"), ("unit", (), ("insurer", "c")))
        self.assertTrue(self.taken(("unit", (("a", 0), ("b", 1)) * 100, ("insurer", "a")), "a", ring(100)))
        self.assertFalse(self.taken(("unit", (("a", 0), ("b", 1)) * 101, ("insurer", "a")), "a", ring(101)))
        caught(self, NoEnd, explain_unit, ring(101), "storm", "a")

    def test_no_such_names(self):
        for market in (example(), endless()):
            for paper in (("unit", WAY, END), None):
                self.assertEqual(caught(self, NoSuchName, judge_unit, market, "flood", "x", paper).name, "flood")
                self.assertEqual(caught(self, NoSuchName, judge_unit, market, "storm", "x", paper).name, "x")
            self.assertEqual(caught(self, NoSuchName, explain_unit, market, "x", "a").name, "x")
            self.assertEqual(caught(self, NoSuchName, explain_unit, market, "storm", "x").name, "x")

    def test_explained_ones_are_taken(self):
        long = 0
        for market, event in markets():
            for name in market.insurers:
                try:
                    paper = explain_unit(market, event, name)
                except NoEnd:
                    caught(self, NoEnd, path, market, event, name)
                    continue
                self.assertEqual(paper, ("unit",) + plain_way(market, event, name))
                self.assertIs(judge_unit(market, event, name, paper), True)
                word, passed, end = paper
                self.assertIs(judge_unit(market, event, name, (word, passed + (("a", 0),), end)), False)
                self.assertIs(judge_unit(market, event, name, (word, passed, end[:1] + ("x",))), False)
                long += len(passed) > 2
        self.assertGreater(long, 10)
