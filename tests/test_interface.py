"""What the interface lists stands in the file under which it is listed, and the examples of README.md hold."""

import doctest
import importlib
import inspect
import os
import unittest

README = os.path.join(os.path.dirname(__file__), "..", "README.md")
LISTED = {
    "sets": ("set_of", "world_of", "both", "common", "minus", "turned_set", "turned_rest", "subsets"),
    "rules": ("Rule", "check_lot", "check_thing", "basis", "swaps"),
    "counting": ("Firsts", "Teams", "Works", "timetable"),
    "nets": ("Net", "pieces", "ring"),
    "columns": ("Columns", "multiples"),
    "toldlots": ("ToldLots", "fault"),
    "shapes": ("Less", "Drawn", "Cut"),
    "turned": ("Turned",),
    "sums": ("Sum",),
    "connected": ("parts", "part_of", "joined", "lacks"),
    "parting": ("parted", "too_full"),
    "many": ("Many", "greatest", "loosest"),
    "covering": ("lots_apart", "few_outside", "most_apart", "covers", "fullest", "lot_prices"),
    "stretches": ("stretches_of",),
    "comparing": ("pairs_of", "row_between", "ring_in", "behind", "forward"),
    "bounds": ("bounds",),
    "notes": ("Notes", "agreeing_world"),
    "worlds": (
        "worlds", "count_worlds", "climb", "turned_world", "before", "order_of", "world_along", "extreme",
    ),
    "choosing": ("lot_of", "price_of", "out_of_order", "dearer", "critical_key", "moved"),
    "levels": ("Level",),
    "surelots": ("sure_lot", "doubt"),
    "fitting": ("world_for", "hindered"),
    "judging": ("verdict", "verdicts", "world_with", "world_without"),
    "equals": ("four", "safe_lot", "unsafe"),
    "kernels": ("kernel",),
    "reaches": ("cheapest", "price_reach", "world_at", "between_lots"),
    "critical": (
        "critical_price", "critical_reach", "worth", "worth_reach", "known", "counts_in", "counting_verdict",
    ),
    "regrets": ("regret", "regret_worlds", "regret_reach", "gaps", "swap_row"),
    "middles": ("middle_lot", "calmest"),
    "matching": ("greatest_row", "least_cover", "lean_covers"),
    "dues": (
        "near", "forced_things", "is_due", "pressing", "useful", "ask_verdict", "due_world", "spare_world",
    ),
    "papers": ("Told",),
    "safepapers": ("SafeTold", "fewest_for"),
    "chains": ("lot_along", "shown_along", "other_order", "fewest_along"),
    "pairs": ("low_pair", "high_pair", "step"),
    "runs": ("Run", "Kept", "foreseen"),
    "lazy": ("lazy_below", "lazy_above", "lot_and_price"),
    "foes": ("Foe", "TwiceFoe", "UsefulFoe", "SomeFoe"),
    "champions": ("comparing",),
    "blows": ("is_blow", "missing", "lean_blows", "least_blow", "strength", "bears"),
    "standins": ("lot_left", "comes", "trail", "may_come", "must_come"),
    "losscosts": ("loss_cost", "loss_worlds", "loss_reach"),
    "depths": ("depth", "depth_loss", "depth_ends", "stock"),
    "ways": ("ways", "cut"),
    "desks": ("Desk",),
    "trials": ("Trial", "tried"),
    "listings": ("line_of", "listing"),
}
PARAMETERS = {
    "set_of": "size things", "world_of": "size prices", "both": "one other", "common": "one other",
    "minus": "one other", "turned_set": "size things", "turned_rest": "size things", "subsets": "things",
    "Rule": "size", "check_lot": "rule lot", "check_thing": "rule thing", "basis": "rule row",
    "swaps": "rule lot other", "Firsts": "size k", "Teams": "classes places", "Works": "days",
    "timetable": "works things", "Net": "points lines", "pieces": "net things", "ring": "net things",
    "Columns": "prime columns", "multiples": "columns things thing", "ToldLots": "size lots", "fault": "size lots",
    "Less": "rule things", "Drawn": "rule things", "Cut": "rule k", "Turned": "rule", "Sum": "rule other rest",
    "parts": "rule", "part_of": "rule thing", "joined": "rule one other", "lacks": "rule things",
    "parted": "rule things k", "too_full": "rule things k", "Many": "rule k", "greatest": "many things",
    "loosest": "many things", "lots_apart": "rule k", "few_outside": "rule k", "most_apart": "rule",
    "covers": "rule", "fullest": "rule", "lot_prices": "rule world most", "stretches_of": "told",
    "pairs_of": "size told", "row_between": "size pairs one other", "ring_in": "size pairs",
    "behind": "size pairs thing", "forward": "size pairs", "bounds": "stretches pairs", "Notes": "stretches pairs",
    "agreeing_world": "notes prices", "worlds": "notes", "count_worlds": "notes", "climb": "notes world other",
    "turned_world": "world", "before": "world thing", "order_of": "world", "world_along": "order",
    "extreme": "notes things", "lot_of": "rule world", "price_of": "world things", "out_of_order": "rule lot world",
    "dearer": "rule lot world", "critical_key": "rule world thing", "moved": "rule world other",
    "Level": "rule world", "sure_lot": "rule notes", "doubt": "rule notes lot", "world_for": "rule notes lot",
    "hindered": "rule notes lot", "verdict": "rule notes thing", "verdicts": "rule notes",
    "world_with": "rule notes thing", "world_without": "rule notes thing", "four": "rule notes thing",
    "safe_lot": "rule notes", "unsafe": "rule notes lot", "kernel": "rule notes", "cheapest": "rule world",
    "price_reach": "rule notes", "world_at": "rule notes price", "between_lots": "rule notes lot other",
    "critical_price": "rule world thing", "critical_reach": "rule notes thing", "worth": "rule world thing",
    "worth_reach": "rule notes thing", "known": "rule notes", "counts_in": "rule notes world thing",
    "counting_verdict": "rule notes thing", "regret": "rule notes lot", "regret_worlds": "rule notes lot",
    "regret_reach": "rule notes lot", "gaps": "rule notes lot", "swap_row": "rule notes lot",
    "middle_lot": "rule notes", "calmest": "rule notes", "greatest_row": "pairs", "least_cover": "pairs",
    "lean_covers": "pairs", "near": "notes thing", "forced_things": "rule notes world",
    "is_due": "rule notes world thing", "pressing": "rule notes", "useful": "rule notes",
    "ask_verdict": "rule notes thing", "due_world": "rule notes thing", "spare_world": "rule notes thing",
    "Told": "rule notes world", "SafeTold": "rule notes world", "fewest_for": "rule notes world lot",
    "lot_along": "rule order", "shown_along": "rule order pairs", "other_order": "rule order pairs",
    "fewest_along": "rule order", "low_pair": "rule notes", "high_pair": "rule notes", "step": "rule notes",
    "Run": "rule notes", "Kept": "run", "foreseen": "kept world", "lazy_below": "rule notes world",
    "lazy_above": "rule notes world", "lot_and_price": "rule notes world", "Foe": "rule notes",
    "TwiceFoe": "number", "UsefulFoe": "rule notes", "SomeFoe": "size", "comparing": "rule order",
    "is_blow": "rule things", "missing": "rule things", "lean_blows": "rule", "least_blow": "rule", "strength": "rule",
    "bears": "rule number", "lot_left": "rule world things", "comes": "rule world thing", "trail": "rule world row",
    "may_come": "rule notes thing", "must_come": "rule notes thing", "loss_cost": "rule world things",
    "loss_worlds": "rule notes things", "loss_reach": "rule notes things", "depth": "rule world thing",
    "depth_loss": "rule world thing", "depth_ends": "rule notes thing", "stock": "rule world k",
    "ways": "net things line", "cut": "net things line", "Desk": "rule notes", "Trial": "desk",
    "tried": "trial deeds", "line_of": "desk thing", "listing": "desk",
}
# The methods that the interface lists for a class stand in that class itself; stars come before keyword names.
METHODS = {
    "Rule": {
        "__init__": "self size", "__len__": "self", "is_free": "self things", "is_lot": "self things",
        "rank": "self things", "span": "self things", "dead": "self", "firm": "self", "lots": "self",
        "circuit": "self lot thing", "blow_of": "self lot thing", "exchanges": "self lot",
    },
    "Sum": {"shares": "self things", "home": "self thing"},
    "Notes": {
        "__init__": "self stretches * pairs", "unknown": "size * pairs", "along": "order", "__len__": "self",
        "__eq__": "self other", "__add__": "self other", "__invert__": "self", "seen": "self thing", "unseen": "self",
        "sure_before": "self one other", "must_precede": "self thing", "may_precede": "self thing",
        "earliest": "self thing", "latest": "self thing", "agrees": "self world", "ask": "self thing price",
        "narrow": "self thing low high", "compare": "self one other", "after": "self things world",
    },
    "Told": {
        "__init__": "self rule notes world", "shows": "self things", "two_worlds": "self things", "lean_papers": "self",
        "doubled": "self number", "__iter__": "self", "__contains__": "self thing",
    },
    "SafeTold": {"__init__": "self rule notes world", "shows": "self things"},
    "Run": {
        "__init__": "self rule notes", "next_step": "self", "put": "self thing price", "finish": "self world",
        "ahead": "self world", "lot_now": "self", "kept": "self", "__iter__": "self",
    },
    "Kept": {"__init__": "self run", "__enter__": "self", "__exit__": "self kind value trace"},
    "Foe": {"__init__": "self rule notes", "__call__": "self thing", "answers": "self", "whole": "self"},
    "TwiceFoe": {"__init__": "self number", "counter": "self"},
    "UsefulFoe": {"__init__": "self rule notes"},
    "SomeFoe": {"__init__": "self size", "counter": "self"},
    "Desk": {
        "__init__": "self rule notes", "ask": "self thing price", "narrow": "self thing low high",
        "compare": "self one other", "lose": "self thing", "regain": "self thing", "back": "self",
        "verdict_of": "self thing", "sure_now": "self", "safe_now": "self", "step_now": "self", "regret_of": "self lot",
        "fewest_in": "self world", "finish": "self world", "__len__": "self", "__iter__": "self",
        "__contains__": "self thing",
    },
    "Trial": {"__init__": "self desk", "__enter__": "self", "__exit__": "self kind value trace"},
}
PROPERTIES = {
    "Rule": ("full",), "Notes": ("plain",), "Run": ("sure",), "Kept": ("ended",), "Desk": ("left",),
    "Trial": ("ended",),
}


def words_of(call):
    """Return the names of the parameters, with a star before those that are passed by keyword."""
    found = []
    for name, one in inspect.signature(call).parameters.items():
        if one.kind == one.KEYWORD_ONLY and "*" not in found:
            found.append("*")
        found.append(name)
    return " ".join(found)


def class_called(name):
    file = [file for file, names in LISTED.items() if name in names][0]
    return getattr(importlib.import_module(f"unseenprices.{file}"), name)


class InterfaceTest(unittest.TestCase):
    def test_defined_under_its_heading(self):
        for file, names in LISTED.items():
            module = importlib.import_module(f"unseenprices.{file}")
            for name in names:
                found = getattr(module, name)
                self.assertEqual(found.__module__, module.__name__, name)
                self.assertEqual(" ".join(inspect.signature(found).parameters), PARAMETERS[name])

    def test_methods_stand_in_the_class(self):
        for name, methods in METHODS.items():
            found = class_called(name)
            for method, words in methods.items():
                self.assertIn(method, vars(found), name)
                self.assertEqual(words_of(getattr(found, method)), words)
        for name, names in PROPERTIES.items():
            for one in names:
                self.assertIsInstance(vars(class_called(name))[one], property)

    def test_the_readme_names_all_of_it(self):
        with open(README, encoding="utf-8") as file:
            text = file.read()
        for file, names in LISTED.items():
            self.assertTrue(f"`unseenprices.{file}`" in text, file)
            for name in names:
                self.assertTrue(f"`{name}`" in text, name)

    def test_readme(self):
        told = doctest.testfile(README, module_relative=False)
        self.assertGreater(told.attempted, 60)
        self.assertEqual(told.failed, 0)
