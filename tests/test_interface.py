"""The interface: each name stands in its own file with its arguments, each method in its own class."""

import inspect
import unittest

from spiraldue import allocation, covers, errors, market, papers, post, schedules, spiral
from tests.helper import market_of

FUNCTIONS = ((allocation, {"allocate": "amount shares", "next_unit": "amount shares"}),
             (covers, {"check_cover": "value", "recovery": "cover loss", "programme": "covers loss"}),
             (spiral, {"next_round": "market event gross", "rounds": "market event", "settled": "market event",
                       "positions": "market event", "external_losses": "market event",
                       "path": "market event insurer", "bearer": "market event insurer"}),
             (schedules, {"schedule_of": "amounts", "amount_at": "schedule number", "amounts_of": "schedule"}),
             (papers, {"judge_least": "market event state paper", "judge_unit": "market event insurer paper",
                       "explain_least": "market event state", "explain_unit": "market event insurer"}))
METHODS = ((market.Market, {"__init__": "", "add_insurer": "name", "add_event": "name",
                            "add_treaty": "cedent cover panel", "terminate": "number",
                            "set_loss": "event insurer amount", "direct": "event", "copy": ""}),
           (post.Post, {"__init__": "market", "send": "insurer", "resend": "insurer", "deliver": "number",
                        "drop": "number", "notice": "number", "estimated": "event insurer",
                        "last_sent": "number event", "estimated_positions": "event", "pending": "", "is_quiet": "",
                        "run": "actions", "settle": "event", "cash": "event insurer", "tried": "",
                        "foresee": "actions", "__len__": "", "__iter__": ""}))
ERRORS = ("SpiralError", "NameTaken", "NoSuchName", "NoSuchTreaty", "TreatyEnded", "NoSuchNotice", "BadName",
          "BadCover", "BadPanel", "BadAmount", "Twice", "OwnPanel", "TooMany", "NoEnd")


class InterfaceTest(unittest.TestCase):
    def test_functions_stand_in_their_files(self):
        for module, functions in FUNCTIONS:
            for name, arguments in functions.items():
                found = getattr(module, name)
                self.assertEqual(found.__module__, module.__name__)
                self.assertEqual(list(inspect.signature(found).parameters), arguments.split(), name)

    def test_classes_stand_in_their_files(self):
        for name in ERRORS:
            self.assertEqual(getattr(errors, name).__module__, "spiraldue.errors")
        self.assertEqual(market.Market.__module__, "spiraldue.market")
        self.assertEqual(post.Post.__module__, "spiraldue.post")

    def test_methods_stand_in_the_class(self):
        for kind, methods in METHODS:
            for name, arguments in methods.items():
                self.assertIn(name, vars(kind))
                self.assertEqual(list(inspect.signature(vars(kind)[name]).parameters), ["self"] + arguments.split())

    def test_class_values(self):
        found = (market.Market.MOST_INSURERS, market.Market.MOST_EVENTS, market.Market.MOST_TREATIES)
        self.assertEqual(found, (6, 3, 16))
        self.assertEqual(market.Market().MOST_TREATIES, 16)

    def test_field_of_a_post(self):
        held = market_of(("a",))
        self.assertIs(post.Post(held).market, held)
