"""The interface: each name stands in its own file, each method in its own class."""

import unittest

from spiraldue import allocation, covers, errors, market

FUNCTIONS = ((allocation, ("allocate", "next_unit")),
             (covers, ("check_cover", "recovery", "programme")))
ERRORS = ("SpiralError", "NameTaken", "NoSuchName", "NoSuchTreaty", "TreatyEnded", "NoSuchNotice", "BadName",
          "BadCover", "BadPanel", "BadAmount", "Twice", "OwnPanel", "TooMany", "NoEnd")
METHODS = ("__init__", "add_insurer", "add_event", "add_treaty", "terminate", "set_loss", "direct", "copy")


class InterfaceTest(unittest.TestCase):
    def test_functions_stand_in_their_files(self):
        for module, names in FUNCTIONS:
            for name in names:
                self.assertEqual(getattr(module, name).__module__, module.__name__)

    def test_classes_stand_in_their_files(self):
        for name in ERRORS:
            self.assertEqual(getattr(errors, name).__module__, "spiraldue.errors")
        self.assertEqual(market.Market.__module__, "spiraldue.market")

    def test_methods_stand_in_the_class(self):
        for name in METHODS:
            self.assertIn(name, vars(market.Market))

    def test_class_values(self):
        found = (market.Market.MOST_INSURERS, market.Market.MOST_EVENTS, market.Market.MOST_TREATIES)
        self.assertEqual(found, (6, 3, 16))
        self.assertEqual(market.Market().MOST_TREATIES, 16)
