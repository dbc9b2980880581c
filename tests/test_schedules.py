"""Point 14: schedules."""

import unittest
from random import Random

from spiraldue.schedules import amount_at, amounts_of, schedule_of
from tests.helper import plain_schedule

FLAT = (0,) * 201


def changed(*pairs):
    """A row of 201 amounts, with these from these rounds on."""
    row = list(FLAT)
    for number, amount in pairs:
        row[number:] = [amount] * (201 - number)
    return tuple(row)


CASES = (((), FLAT),
         (((0, 5),), (5,) * 201),
         (((200, 5),), FLAT[1:] + (5,)),
         (((199, 5), (200, 0)), FLAT[2:] + (5, 0)),
         (((0, 5), (1, 0)), (5,) + FLAT[1:]),
         (((0, 5), (200, 6)), (5,) * 200 + (6,)),
         (((0, 1), (1, 2), (2, 1)), (1, 2) + (1,) * 199),
         (((3, 7), (10, 0), (11, 10 ** 9)), changed((3, 7), (10, 0), (11, 10 ** 9))),
         (tuple((number, number + 1) for number in range(201)), tuple(range(1, 202))),
         (tuple((number, number) for number in range(1, 201)), tuple(range(201))))


class ScheduleTest(unittest.TestCase):
    def test_schedules_and_their_rows(self):
        for schedule, row in CASES:
            self.assertEqual(schedule_of(row), schedule)
            self.assertEqual(amounts_of(schedule), row)
            self.assertIsInstance(schedule_of(row), tuple)
            self.assertIsInstance(amounts_of(schedule), tuple)

    def test_a_row_of_noughts(self):
        self.assertEqual(schedule_of(FLAT), ())
        self.assertEqual(amounts_of(()), FLAT)

    def test_amounts_of_rounds(self):
        for schedule, row in CASES:
            self.assertEqual(tuple(amount_at(schedule, number) for number in range(201)), row)
        schedule = ((3, 7), (10, 0), (200, 4))
        found = [amount_at(schedule, number) for number in (0, 2, 3, 4, 9, 10, 199, 200)]
        self.assertEqual(found, [0, 0, 7, 7, 7, 0, 0, 4])
        self.assertEqual((amount_at((), 0), amount_at((), 200)), (0, 0))

    def test_lists_as_well_as_tuples(self):
        row = list(changed((0, 2), (200, 3)))
        kept = list(row)
        self.assertEqual(schedule_of(row), ((0, 2), (200, 3)))
        self.assertEqual(row, kept)

    def test_different_rows_have_different_schedules(self):
        source = Random(14)
        rows = {tuple(changed(*[(source.choice((0, 1, 2, 100, 199, 200)), source.randint(0, 2))
                                for _ in range(source.randint(0, 6))])) for _ in range(400)}
        self.assertGreater(len(rows), 50)
        self.assertEqual(len({schedule_of(row) for row in rows}), len(rows))
        for row in rows:
            self.assertEqual(schedule_of(row), plain_schedule(row))
            self.assertEqual(amounts_of(schedule_of(row)), row)

    def test_each_amount_is_another_one_than_the_one_ahead(self):
        source = Random(15)
        for _ in range(50):
            schedule = schedule_of([source.randint(0, 2) for _ in range(201)])
            amounts = [0] + [amount for _, amount in schedule]
            self.assertTrue(all(new != old for old, new in zip(amounts, amounts[1:])))
            self.assertEqual([number for number, _ in schedule], sorted({number for number, _ in schedule}))
