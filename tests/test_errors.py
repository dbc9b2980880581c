"""Point 3: the errors, their base and their fields."""

import unittest

from spiraldue import errors

PLAIN = (errors.BadName, errors.BadCover, errors.BadPanel, errors.BadAmount, errors.Twice, errors.OwnPanel,
         errors.TooMany, errors.NoEnd)
NAMED = (errors.NameTaken, errors.NoSuchName)
NUMBERED = (errors.NoSuchTreaty, errors.TreatyEnded, errors.NoSuchNotice)


class ErrorsTest(unittest.TestCase):
    def test_base_is_a_value_error(self):
        self.assertTrue(issubclass(errors.SpiralError, ValueError))

    def test_each_error_is_under_the_base_only(self):
        for error in PLAIN + NAMED + NUMBERED:
            self.assertEqual(error.__mro__[1:3], (errors.SpiralError, ValueError))

    def test_the_classes_are_different_ones(self):
        self.assertEqual(len(set(PLAIN + NAMED + NUMBERED)), 13)

    def test_plain_errors_are_raised_and_caught(self):
        for error in PLAIN:
            with self.assertRaises(errors.SpiralError):
                raise error("some words")

    def test_named_errors_have_the_name(self):
        for error in NAMED:
            self.assertEqual(error("storm").name, "storm")
            self.assertEqual(error(name="b").name, "b")

    def test_numbered_errors_have_the_number(self):
        for error in NUMBERED:
            self.assertEqual(error(7).number, 7)
            self.assertEqual(error(number=0).number, 0)
