"""Points 5 and 6: covers and programmes."""

import unittest

from spiraldue.covers import check_cover, programme, recovery
from spiraldue.errors import BadCover
from tests.helper import caught

GOOD = (("share", 1), ("share", 1000), ("share", 500),
        ("layer", 0, 1), ("layer", 100000, 1), ("layer", 0, 100000), ("layer", 100000, 100000), ("layer", 5, 3))
BEYOND = (("share", 0), ("share", 1001), ("share", -1),
          ("layer", -1, 1), ("layer", 100001, 1), ("layer", 0, 0), ("layer", 0, 100001), ("layer", 0, -1))
WORDS = (("quota", 500), ("Share", 500), ("", 5), ("layers", 1, 1), ("LAYER", 1, 1), (None, 500), (1, 500),
         (b"share", 500), ("share ", 500), (("share",), 500))
ITEMS = ((), ("share",), ("share", 1, 1), ("share", 5, None), ("layer",), ("layer", 5), ("layer", 5, 3, 1))
NUMBERS = (("share", True), ("share", "500"), ("share", None), ("share", (5,)), ("share", [5]), ("share", b"5"),
           ("layer", True, 3), ("layer", False, 3), ("layer", 5, True), ("layer", "5", 3), ("layer", 5, "3"),
           ("layer", None, 3), ("layer", 5, None), ("layer", 5, 3.0), ("share", 500.0))
OTHERS = (["share", 500], ["layer", 5, 3], None, 500, 0, True, False, "share", "", b"share", {"share": 500}, {},
          [], (("share", 500),), (("layer", 5, 3), ("share", 500)))


class CheckCoverTest(unittest.TestCase):
    def test_covers_at_the_limits(self):
        for cover in GOOD:
            self.assertIsNone(check_cover(cover))

    def test_beyond_the_limits(self):
        for value in BEYOND:
            caught(self, BadCover, check_cover, value)

    def test_no_covers(self):
        for value in WORDS + ITEMS + NUMBERS + OTHERS:
            with self.subTest(value=value):
                caught(self, BadCover, check_cover, value)


class RecoveryTest(unittest.TestCase):
    def test_example(self):
        self.assertEqual(recovery(("layer", 5, 3), 7), 2)

    def test_share_pays_the_whole_part(self):
        self.assertEqual([recovery(("share", 500), loss) for loss in range(5)], [0, 0, 1, 1, 2])
        self.assertEqual([recovery(("share", 1), loss) for loss in (0, 1, 999, 1000, 1999, 2000)], [0, 0, 0, 1, 1, 2])
        self.assertEqual([recovery(("share", 999), loss) for loss in (0, 1, 2, 1000, 1001)], [0, 0, 1, 999, 999])
        self.assertEqual([recovery(("share", 1000), loss) for loss in (0, 1, 7)], [0, 1, 7])
        self.assertEqual(recovery(("share", 333), 10 ** 30 + 4), 333 * 10 ** 27 + 1)

    def test_layer_around_retention_and_limit(self):
        cover = ("layer", 5, 3)
        self.assertEqual([recovery(cover, loss) for loss in (0, 4, 5, 6, 7, 8, 9, 10 ** 25)], [0, 0, 0, 1, 2, 3, 3, 3])

    def test_layer_of_retention_0_and_limit_1(self):
        self.assertEqual([recovery(("layer", 0, 1), loss) for loss in (0, 1, 2)], [0, 1, 1])

    def test_layer_at_its_largest(self):
        cover = ("layer", 100000, 100000)
        found = [recovery(cover, loss) for loss in (99999, 100000, 100001, 199999, 200000, 200001)]
        self.assertEqual(found, [0, 0, 1, 99999, 100000, 100000])


class ProgrammeTest(unittest.TestCase):
    def test_example(self):
        self.assertEqual(programme((("share", 500), ("layer", 2, 3)), 9), ((4, 3), 2))

    def test_no_cover(self):
        self.assertEqual(programme((), 9), ((), 9))
        self.assertEqual(programme([], 0), ((), 0))

    def test_remainder_reaches_the_next_cover(self):
        covers = (("layer", 10, 5), ("layer", 10, 5), ("share", 500))
        self.assertEqual(programme(covers, 10), ((0, 0, 5), 5))
        self.assertEqual(programme(covers, 13), ((3, 0, 5), 5))
        self.assertEqual(programme(covers, 17), ((5, 2, 5), 5))
        self.assertEqual(programme(covers, 31), ((5, 5, 10), 11))

    def test_order_counts(self):
        self.assertEqual(programme((("layer", 2, 3), ("share", 500)), 9), ((3, 3), 3))
        self.assertEqual(programme((("share", 1000), ("layer", 0, 5)), 9), ((9, 0), 0))

    def test_lists_as_well_as_tuples(self):
        covers = [("share", 500), ("layer", 2, 3)]
        paid, net = programme(covers, 9)
        self.assertEqual((paid, net), ((4, 3), 2))
        self.assertIsInstance(paid, tuple)
        self.assertEqual(covers, [("share", 500), ("layer", 2, 3)])

    def test_paid_and_net_add_up(self):
        for covers in ((), GOOD, GOOD[2:], (("share", 333), ("share", 333), ("layer", 7, 20), ("share", 10))):
            for loss in list(range(60)) + [99999, 100001, 250000, 10 ** 22]:
                paid, net = programme(covers, loss)
                self.assertEqual(sum(paid) + net, loss)
                self.assertEqual(len(paid), len(covers))
                self.assertGreaterEqual(min(paid + (net,)), 0)
