"""Points 51 and 52: lots that are sure."""

import random
import unittest

from tests.cases import CASES
from tests.kinds import DEEP_RULES, WIDE_RULES
from tests.knowing import later_of
from tests.meaning import raised
from tests.refusals import refuses_sets
from unseenprices.choosing import lot_of
from unseenprices.counting import Firsts
from unseenprices.nets import Net
from unseenprices.notes import Notes
from unseenprices.rules import Rule
from unseenprices.sets import TOP
from unseenprices.surelots import doubt, sure_lot

NET = Net(4, ((0, 1), (1, 2), (0, 2), (2, 3), (2, 3)))
NOTES = Notes(((1, 4), (2, 2), (3, 6), (0, 5), (4, 4)))


def wide_notes(size, seed, many):
    """Return notes of so many things with that many comparisons."""
    chance = random.Random(seed)
    pairs = [tuple(sorted(chance.sample(range(size), 2))) for _ in range(many)]
    return Notes([(chance.randrange(20), 20 + chance.randrange(20)) for _ in range(size)], pairs=pairs)


class SureLotTest(unittest.TestCase):
    def test_every_small_rule(self):
        sure = 0
        for case in CASES:
            found = case.possible()
            sure += len(found) == 1 and len(case.meaning.lots) > 1
            self.assertEqual(sure_lot(case.rule, case.notes), found[0] if len(found) == 1 else None)
        self.assertGreater(sure, 40)

    def test_examples(self):
        self.assertIsNone(sure_lot(NET, NOTES))
        self.assertEqual(sure_lot(NET, NOTES.after((0, 2, 3), (2, 2, 5, 1, 4))), (0, 1, 3))
        self.assertEqual([sure_lot(Rule(0), Notes(())), sure_lot(Firsts(2, 0), Notes.unknown(2))], [(), ()])
        self.assertEqual(sure_lot(Firsts(2, 1), Notes(((3, 3), (3, TOP)))), (0,))
        self.assertEqual(sure_lot(Firsts(2, 1), Notes(((2, 4), (3, 3)))), None)
        self.assertEqual(sure_lot(Firsts(2, 1), Notes.unknown(2, pairs=((1, 0),))), (1,))
        self.assertEqual(sure_lot(Firsts(2, 1), Notes(((0, 1), (0, 0)))), None)

    def test_lows_and_highs_with_the_same_lot_are_not_enough(self):
        notes = Notes(((0, 2), (1, 3)))
        self.assertEqual(lot_of(Firsts(2, 1), notes.lows), lot_of(Firsts(2, 1), notes.highs))
        self.assertIsNone(sure_lot(Firsts(2, 1), notes))

    def test_other_size_comes_first(self):
        for size in (0, 2, 4, 7):
            told = ("OtherSize", {"size": size})
            notes = Notes.unknown(size, pairs=((0, 1),) if size > 1 else ())
            self.assertEqual(raised(sure_lot, Firsts(3, 1), notes), told)
            self.assertEqual(raised(doubt, Firsts(3, 1), notes, None), told)
            self.assertEqual(raised(doubt, Firsts(3, 1), notes, (5,)), told)


class DoubtTest(unittest.TestCase):
    def test_every_small_rule(self):
        for case in CASES:
            known = case.known
            for lot, pairs in case.finder.exchanges.items():
                found = doubt(case.rule, case.notes, list(lot))
                doubtful = [(e, f) for e, f in pairs if not known.before_in_all(e, f)]
                self.assertEqual(found is None, case.possible() == [lot])
                if found is None:
                    self.assertEqual(doubtful, [])
                else:
                    pair, world = found
                    self.assertEqual(pair, doubtful[0])
                    self.assertEqual(world, case.notes.latest(pair[0]))
                    self.assertNotEqual(case.found[case.worlds.index(world)], lot)

    def test_as_point_52_words_it(self):
        for case in CASES:
            for lot, pairs in case.finder.exchanges.items():
                sure = all(
                    f in later_of(case.known.size, case.known.pairs, e)
                    or (case.notes.highs[e], e) < (case.notes.lows[f], f) for e, f in pairs
                )
                self.assertIs(doubt(case.rule, case.notes, lot) is None, sure)

    def test_example(self):
        self.assertEqual(doubt(NET, NOTES, (0, 1, 3)), ((0, 2), (4, 2, 3, 0, 4)))
        self.assertIsNone(doubt(Firsts(2, 0), Notes.unknown(2), ()))

    def test_errors_in_order(self):
        refuses_sets(self, 5, lambda lot: doubt(NET, NOTES, lot))
        for wrong in ((), (0, 1), (0, 1, 2), (0, 1, 2, 3)):
            self.assertEqual(raised(doubt, NET, NOTES, list(wrong)), ("NotALot", {"things": wrong}))

    def test_wide(self):
        for place, rule in enumerate(WIDE_RULES + DEEP_RULES[::2]):
            notes = wide_notes(rule.size, place, (0, 20, 60)[place % 3])
            lot = lot_of(rule, notes.lows)
            found = doubt(rule, notes, lot)
            self.assertEqual(sure_lot(rule, notes), lot if found is None else None)
            if found is not None:
                self.assertTrue(notes.agrees(found[1]))
                self.assertNotEqual(lot_of(rule, found[1]), lot)
            told = notes.after(range(rule.size), notes.highs)
            self.assertEqual(sure_lot(rule, told), lot_of(rule, notes.highs))
