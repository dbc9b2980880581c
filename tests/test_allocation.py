"""Point 4: allocation, unit by unit in cycles."""

import unittest

from spiraldue.allocation import allocate, next_unit

PANELS = ((1,), (7,), (2, 1), (1, 2), (1, 1), (3, 1, 2), (1, 5, 1, 1), (2, 2, 2, 2, 2, 2), (100,), (40, 1, 59))


def by_units(amount, shares):
    """The parts by the words of the point: cycles of single units."""
    cycle = [index for index, share in enumerate(shares) for _ in range(share)]
    parts = [0] * len(shares)
    for unit in range(amount):
        parts[cycle[unit % len(cycle)]] += 1
    return tuple(parts)


class AllocateTest(unittest.TestCase):
    def test_example(self):
        self.assertEqual((allocate(7, (2, 1)), next_unit(7, (2, 1)), next_unit(8, (2, 1))), ((5, 2), 0, 1))

    def test_amount_0(self):
        self.assertEqual(allocate(0, (3, 1, 2)), (0, 0, 0))
        self.assertEqual(next_unit(0, (3, 1, 2)), 0)

    def test_one_participant_gets_all(self):
        for shares in ((1,), (5,), (100,)):
            for amount in (0, 1, 4, 5, 6, 999):
                self.assertEqual(allocate(amount, shares), (amount,))
                self.assertEqual(next_unit(amount, shares), 0)

    def test_remaining_units_go_in_order(self):
        self.assertEqual([allocate(amount, (2, 3, 1)) for amount in range(7)],
                         [(0, 0, 0), (1, 0, 0), (2, 0, 0), (2, 1, 0), (2, 2, 0), (2, 3, 0), (2, 3, 1)])
        self.assertEqual([next_unit(amount, (2, 3, 1)) for amount in range(7)], [0, 0, 1, 1, 1, 2, 0])

    def test_as_unit_by_unit(self):
        for shares in PANELS:
            for amount in range(230):
                self.assertEqual(allocate(amount, shares), by_units(amount, shares))

    def test_large_amounts(self):
        self.assertEqual(allocate(3 * 10 ** 30 + 2, (2, 1)), (2 * 10 ** 30 + 2, 10 ** 30))
        self.assertEqual(next_unit(3 * 10 ** 30 + 2, (2, 1)), 1)
        self.assertEqual(allocate(10 ** 400, (1, 1)), (5 * 10 ** 399, 5 * 10 ** 399))
        self.assertEqual(allocate(10 ** 20 + 1, (10 ** 20, 1)), (10 ** 20, 1))
        self.assertEqual(next_unit(10 ** 20, (10 ** 20, 1)), 1)

    def test_parts_add_up(self):
        for shares in PANELS:
            for amount in list(range(120)) + [10 ** 20 + 7, 10 ** 50 - 1]:
                self.assertEqual(sum(allocate(amount, shares)), amount)

    def test_next_unit_is_the_part_that_grows(self):
        for shares in PANELS:
            for amount in list(range(230)) + [10 ** 20 + unit for unit in range(110)]:
                parts = list(allocate(amount, shares))
                parts[next_unit(amount, shares)] += 1
                self.assertEqual(tuple(parts), allocate(amount + 1, shares))

    def test_lists_as_well_as_tuples(self):
        shares = [2, 1]
        self.assertEqual(allocate(7, shares), (5, 2))
        self.assertIsInstance(allocate(7, shares), tuple)
        self.assertEqual((next_unit(7, shares), next_unit(8, shares)), (0, 1))
        self.assertEqual(shares, [2, 1])
