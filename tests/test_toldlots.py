"""Point 10: told lots and their faults."""

import random
import unittest

from tests.kinds import SMALL_RULES, TOLD, many_lots
from tests.meaning import Meaning, all_sets, check_rule, raised, told_test
from unseenprices.toldlots import ToldLots, fault


def plain_fault(lots):
    """Return the least fault as point 10 words it."""
    for i, one in enumerate(lots):
        for j, other in enumerate(lots):
            for e in one:
                if e not in other:
                    swapped = [tuple(sorted({*one, f} - {e})) for f in other if f not in one]
                    if not any(things in lots for things in swapped):
                        return (i, j, e)
    return None


class ToldLotsTest(unittest.TestCase):
    def test_meaning(self):
        for size, lots in TOLD:
            check_rule(self, ToldLots(size, lots), Meaning(size, told_test(lots)))
            self.assertIsNone(fault(size, lots))

    def test_lots_of_every_rule(self):
        for rule, meaning in SMALL_RULES:
            told = ToldLots(rule.size, meaning.lots[::-1])
            self.assertEqual([told.lots(), told.size], [meaning.lots, meaning.size])
            self.assertEqual([told.dead(), told.firm()], [meaning.dead(), meaning.firm()])

    def test_one_empty_set(self):
        rule = ToldLots(2, [()])
        self.assertEqual([rule.lots(), rule.full, rule.dead(), rule.firm()], [[()], 0, (0, 1), ()])
        self.assertEqual([rule.is_free(()), rule.is_free((0,)), rule.span(())], [True, False, (0, 1)])
        self.assertIsNone(fault(0, [[]]))

    def test_lists_are_not_kept(self):
        lots = [[0, 1], [0, 2]]
        rule = ToldLots(3, lots)
        self.assertIsNone(fault(3, lots))
        self.assertEqual(lots, [[0, 1], [0, 2]])
        lots[0][1] = 2
        lots.append([1, 2])
        self.assertEqual(rule.lots(), [(0, 1), (0, 2)])

    def test_300_lots(self):
        lots = many_lots()
        self.assertEqual(len(lots), 300)
        rule = ToldLots(16, lots)
        self.assertEqual([rule.full, rule.dead(), rule.firm()], [5, (13, 14, 15), ()])
        self.assertEqual(len(rule.exchanges(lots[7])), 2 * 3 + 2 * 3 + 1 * 2)
        self.assertIsNone(fault(16, lots))
        self.assertEqual(fault(16, lots[:-1]), plain_fault(lots[:-1]))


class FaultTest(unittest.TestCase):
    def test_example(self):
        told = ("BadLots", {"one": 0, "other": 1, "thing": 0})
        self.assertEqual(raised(ToldLots, 4, ((0, 1), (2, 3))), told)
        self.assertEqual(fault(4, ((0, 1), (2, 3))), (0, 1, 0))

    def check_list(self, size, lots):
        found = fault(size, lots)
        self.assertEqual(found, plain_fault(lots))
        meaning = Meaning(size, told_test(lots))
        self.assertEqual(found is None, meaning.is_rule() and meaning.lots == sorted(lots))
        if found is None:
            self.assertEqual(ToldLots(size, lots).lots(), sorted(lots))
        else:
            told = dict(zip(("one", "other", "thing"), found))
            self.assertEqual(raised(ToldLots, size, lots), ("BadLots", told))

    def test_all_lists_of_sets_of_three_things(self):
        sets = all_sets(3)
        for chosen in range(1, 256):
            self.check_list(3, [things for at, things in enumerate(sets) if chosen >> at & 1])

    def test_lists_of_sets_of_some_things(self):
        chance = random.Random(7)
        for size in (4, 5):
            for many in (1, 2, 2):
                sets = [things for things in all_sets(size) if len(things) == many]
                for _ in range(60):
                    self.check_list(size, chance.sample(sets, chance.randrange(1, len(sets) + 1)))

    def test_other_numbers_of_things(self):
        for lots in (((), (0,)), ((0,), ()), ((0, 1), (2,)), ((0,), (1,), (0, 1))):
            self.assertEqual(fault(3, lots), plain_fault(lots))
            self.assertIsNotNone(fault(3, lots))

    def test_errors_in_order(self):
        for call in (ToldLots, fault):
            for wrong in (-1, None, "3"):
                self.assertEqual(raised(call, wrong, ()), ("BadNumber", {"name": "size"}))
                self.assertEqual(raised(call, wrong, ((7,),)), ("BadNumber", {"name": "size"}))
            self.assertEqual(raised(call, 3, ()), ("NoLots", {}))
            self.assertEqual(raised(call, 0, []), ("NoLots", {}))
            for wrong in ((3,), (-1,), (1, 1), (2, 0), (None,), ("0",), None, 1, "01", {0: 1}):
                self.assertEqual(raised(call, 3, [wrong, None]), ("BadEntry", {"place": 0}))
                self.assertEqual(raised(call, 3, [(0,), [0], wrong]), ("BadEntry", {"place": 2}))
            self.assertEqual(raised(call, 3, [(0, 1), (2,), [0, 1], (2,)]), ("Twice", {"place": 2}))
            self.assertEqual(raised(call, 3, [(2,), (0, 1), (0, 1)]), ("Twice", {"place": 2}))
            self.assertEqual(raised(call, 3, [(), ()]), ("Twice", {"place": 1}))
