"""The examples of the document's interface, as they stand there, and those of README.md."""

import unittest
from doctest import DocTestParser, DocTestRunner
from pathlib import Path

ALLOCATION = """
>>> from spiraldue.allocation import allocate, next_unit
>>> allocate(7, (2, 1)), next_unit(7, (2, 1)), next_unit(8, (2, 1))
((5, 2), 0, 1)
"""
COVERS = """
>>> from spiraldue.covers import programme, recovery
>>> recovery(("layer", 5, 3), 7), programme((("share", 500), ("layer", 2, 3)), 9)
(2, ((4, 3), 2))
"""
SPIRAL = """
>>> from spiraldue.market import Market
>>> from spiraldue.spiral import external_losses, path, positions, rounds
>>> market = Market()
>>> market.add_insurer("a"), market.add_insurer("b"), market.add_event("storm")
(1, 2, 1)
>>> market.add_treaty("a", ("layer", 100, 300), (("b", 1),)), market.add_treaty("b", ("layer", 50, 200), (("a", 1), (None, 1)))
(0, 1)
>>> market.set_loss("storm", "a", 160)
>>> rounds(market, "storm")[:4], rounds(market, "storm")[-1]
(((160, 0), (160, 60), (165, 60), (165, 65)), (170, 70))
>>> positions(market, "storm"), external_losses(market, "storm")
((('a', 160, 10, 70, 100), ('b', 0, 70, 20, 50)), (0, 10))
>>> path(market, "storm", "a")
((('a', 0), ('b', 1), ('a', 0), ('b', 1)), ('external', 1))
"""
README = Path(__file__).parent.parent / "README.md"


class ExamplesTest(unittest.TestCase):
    def check(self, name, text):
        test = DocTestParser().get_doctest(text, {}, name, name, 0)
        self.assertGreater(len(test.examples), 1)
        told = []
        found = DocTestRunner(verbose=False).run(test, out=told.append)
        self.assertEqual(found.failed, 0, "".join(told))

    def test_examples_of_the_document(self):
        for name, text in (("allocation", ALLOCATION), ("covers", COVERS), ("spiral", SPIRAL)):
            self.check(name, text)

    def test_examples_of_the_readme(self):
        self.check("README", README.read_text(encoding="utf-8").replace("```", ""))
