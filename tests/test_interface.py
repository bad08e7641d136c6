"""What the interface lists stands in the file under which it is listed, and the examples of README.md hold."""

import doctest
import importlib
import inspect
import os
import unittest

LISTED = {
    "sets": ("set_of", "world_of", "both", "common", "minus", "turned_set", "turned_rest", "subsets"),
    "rules": ("Rule", "check_lot", "check_thing", "basis", "swaps"),
    "counting": ("Firsts", "Teams", "Works", "timetable"),
    "nets": ("Net", "pieces", "ring"),
    "columns": ("Columns", "multiples"),
    "toldlots": ("ToldLots", "fault"),
    "shapes": ("Less", "Drawn", "Cut"),
    "turned": ("Turned",),
    "sums": ("Sum",),
    "connected": ("parts", "part_of", "joined", "lacks"),
    "parting": ("parted", "too_full"),
    "many": ("Many", "greatest", "loosest"),
    "covering": ("lots_apart", "few_outside", "most_apart", "covers", "fullest", "lot_prices"),
    "stretches": ("stretches_of",),
    "comparing": ("pairs_of", "row_between", "ring_in", "behind", "forward"),
}
PARAMETERS = {
    "set_of": "size things", "world_of": "size prices", "both": "one other", "common": "one other",
    "minus": "one other", "turned_set": "size things", "turned_rest": "size things", "subsets": "things",
    "Rule": "size", "check_lot": "rule lot", "check_thing": "rule thing", "basis": "rule row",
    "swaps": "rule lot other", "Firsts": "size k", "Teams": "classes places", "Works": "days",
    "timetable": "works things", "Net": "points lines", "pieces": "net things", "ring": "net things",
    "Columns": "prime columns", "multiples": "columns things thing", "ToldLots": "size lots", "fault": "size lots",
    "Less": "rule things", "Drawn": "rule things", "Cut": "rule k", "Turned": "rule", "Sum": "rule other rest",
    "parts": "rule", "part_of": "rule thing", "joined": "rule one other", "lacks": "rule things",
    "parted": "rule things k", "too_full": "rule things k", "Many": "rule k", "greatest": "many things",
    "loosest": "many things", "lots_apart": "rule k", "few_outside": "rule k", "most_apart": "rule",
    "covers": "rule", "fullest": "rule", "lot_prices": "rule world most", "stretches_of": "told",
    "pairs_of": "size told", "row_between": "size pairs one other", "ring_in": "size pairs",
    "behind": "size pairs thing", "forward": "size pairs",
}


class InterfaceTest(unittest.TestCase):
    def test_defined_under_its_heading(self):
        for file, names in LISTED.items():
            module = importlib.import_module(f"unseenprices.{file}")
            for name in names:
                found = getattr(module, name)
                self.assertEqual(found.__module__, module.__name__, name)
                self.assertEqual(" ".join(inspect.signature(found).parameters), PARAMETERS[name])

    def test_readme(self):
        path = os.path.join(os.path.dirname(__file__), "..", "README.md")
        told = doctest.testfile(path, module_relative=False)
        self.assertGreater(told.attempted, 30)
        self.assertEqual(told.failed, 0)
