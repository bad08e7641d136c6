"""Points 53 and 54: lots that are possible."""

import unittest
from itertools import permutations

from tests.cases import CASES, OTHER_CASES, PLAIN_CASES
from tests.kinds import DEEP_RULES, WIDE_RULES
from tests.knowing import is_bad_row, least_of
from tests.meaning import raised
from tests.refusals import refuses_sets
from tests.test_surelots import wide_notes
from unseenprices.choosing import lot_of
from unseenprices.counting import Firsts, Teams
from unseenprices.fitting import hindered, world_for
from unseenprices.nets import Net
from unseenprices.notes import Notes
from unseenprices.rules import Rule
from unseenprices.sets import TOP

NET = Net(4, ((0, 1), (1, 2), (0, 2), (2, 3), (2, 3)))
TEAMS = Teams((0, 0, 1, 1), (1, 1))


class WorldForTest(unittest.TestCase):
    def test_every_small_rule(self):
        for case in CASES:
            for lot in case.meaning.lots:
                having = [world for world, found in zip(case.worlds, case.found) if found == lot]
                found = world_for(case.rule, case.notes, list(lot))
                if having:
                    self.assertEqual(found, least_of(having))
                    self.assertIn(found, having)
                else:
                    self.assertIsNone(found)

    def test_the_extreme_world_for_plain_notes(self):
        for case in PLAIN_CASES:
            for lot in case.possible():
                low = tuple(a if x in lot else b for x, (a, b) in enumerate(case.known.stretches))
                self.assertEqual(case.finder.lot(low), lot)

    def test_examples(self):
        self.assertEqual(world_for(Rule(0), Notes(()), ()), ())
        self.assertEqual(world_for(Firsts(2, 0), Notes(((1, 2),) * 2), []), (1, 1))
        self.assertEqual(world_for(Firsts(2, 1), Notes(((0, TOP), (0, 0))), (0,)), (0, 0))
        self.assertEqual(world_for(Firsts(2, 1), Notes(((0, TOP), (0, 0))), (1,)), (1, 0))
        self.assertEqual(world_for(Firsts(2, 1), Notes(((0, 0), (0, 0))), (1,)), None)


class HinderedTest(unittest.TestCase):
    def test_plain(self):
        hinders = 0
        for case in PLAIN_CASES:
            for lot, pairs in case.finder.exchanges.items():
                wrong = [(e, f) for e, f in pairs if case.known.before_in_all(f, e)]
                self.assertEqual(hindered(case.rule, case.notes, list(lot)), wrong[0] if wrong else None)
                self.assertEqual(not wrong, lot in case.found)
                hinders += bool(wrong)
        self.assertGreater(hinders, 200)

    def test_with_comparisons(self):
        hinders = 0
        for case in OTHER_CASES:
            for lot, pairs in case.finder.exchanges.items():
                found = hindered(case.rule, case.notes, lot)
                self.assertEqual(found is None, lot in case.found)
                if found is not None:
                    hinders += 1
                    self.assertTrue(is_bad_row(found, case.known.stretches, [*case.known.pairs, *pairs]))
        self.assertGreater(hinders, 200)

    def test_the_four_things_of_point_54(self):
        notes = Notes.unknown(4, pairs=((1, 2), (3, 0)))
        self.assertIsNone(world_for(TEAMS, notes, (0, 2)))
        row = hindered(TEAMS, notes, (0, 2))
        self.assertTrue(row[0] == row[-1] and is_bad_row(row, notes.stretches, [(0, 1), (1, 2), (2, 3), (3, 0)]))
        self.assertEqual([notes.sure_before(1, 0), notes.sure_before(3, 2)], [False, False])

    def test_rings_at_plain_notes(self):
        # For plain notes some tuple as in point 54 means that an exchange is hindered at once.
        for case in PLAIN_CASES[::5]:
            things = case.meaning.all
            for lot, pairs in case.finder.exchanges.items():
                steps = {*pairs, *[(x, y) for x in things for y in things if case.known.before_in_all(x, y)]}
                rings = [
                    row for many in range(2, len(things) + 1) for row in permutations(things, many)
                    if all(step in steps for step in zip(row, row[1:] + row[:1]))
                ]
                self.assertEqual(bool(rings), hindered(case.rule, case.notes, lot) is not None)

    def test_nothing_but_comparisons(self):
        self.assertIsNone(hindered(NET, Notes.unknown(5, pairs=((0, 2), (1, 2))), (0, 1, 3)))
        row = hindered(NET, Notes.unknown(5, pairs=((2, 0),)), (0, 1, 3))
        self.assertTrue(row[0] == row[-1] and is_bad_row(row, ((0, TOP),) * 5, [(2, 0), (0, 2), (1, 2), (3, 4)]))

    def test_a_clash(self):
        notes = Notes(((0, 9), (5, 9), (0, 4)), pairs=((1, 0),))
        row = hindered(Firsts(3, 2), notes, (0, 1))
        self.assertTrue(is_bad_row(row, notes.stretches, [(1, 0), (0, 2), (1, 2)]))
        self.assertEqual(hindered(Firsts(3, 1), notes, (0,)), (0, 1, 0))

    def test_errors_in_order(self):
        for call in (world_for, hindered):
            for notes in (Notes.unknown(5), Notes.unknown(5, pairs=((3, 4),))):
                refuses_sets(self, 5, lambda lot: call(NET, notes, lot))
                for wrong in ((), (0, 1), (0, 1, 2), (0, 1, 2, 3)):
                    self.assertEqual(raised(call, NET, notes, list(wrong)), ("NotALot", {"things": wrong}))
            for size in (0, 4, 6):
                told = ("OtherSize", {"size": size})
                self.assertEqual(raised(call, NET, Notes.unknown(size), None), told)
                self.assertEqual(raised(call, NET, Notes.unknown(size), (0, 9)), told)

    def test_wide(self):
        for place, rule in enumerate(WIDE_RULES + DEEP_RULES[::3]):
            notes = wide_notes(rule.size, place, (0, 15, 60)[place % 3])
            for told in (notes.lows, notes.highs, tuple(range(rule.size, 0, -1))):
                lot = lot_of(rule, told)
                world = world_for(rule, notes, lot)
                self.assertEqual(world is None, hindered(rule, notes, lot) is not None)
                if world is not None:
                    self.assertTrue(notes.agrees(world))
                    self.assertEqual(lot_of(rule, world), lot)
