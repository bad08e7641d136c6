"""Points 56 to 58 and 60: what cheapest lots have at equal prices, safe lots, the one candidate, turned rules."""

import unittest

from tests.cases import CASES, OTHER_CASES, PLAIN_CASES, price_in
from tests.kinds import DEEP_RULES, WIDE_RULES
from tests.knowing import later_of
from tests.meaning import raised, turned_of, with_things, without_things
from tests.refusals import refuses_sets, refuses_things
from tests.test_surelots import wide_notes
from unseenprices.choosing import lot_of
from unseenprices.counting import Firsts, Works
from unseenprices.equals import four, safe_lot, unsafe
from unseenprices.fitting import world_for
from unseenprices.judging import verdicts
from unseenprices.nets import Net
from unseenprices.notes import Notes
from unseenprices.rules import Rule
from unseenprices.sets import TOP, turned_rest
from unseenprices.surelots import doubt, sure_lot
from unseenprices.turned import Turned
from unseenprices.worlds import turned_world

NET = Net(4, ((0, 1), (1, 2), (0, 2), (2, 3), (2, 3)))
NOTES = Notes(((1, 4), (2, 2), (3, 6), (0, 5), (4, 4)))


class FourTest(unittest.TestCase):
    def test_every_small_rule(self):
        for case in CASES:
            for x in case.meaning.all:
                every = [all(x in lot for lot in row) for row in case.cheapest]
                some = [any(x in lot for lot in row) for row in case.cheapest]
                told = (all(every), all(some), any(every), any(some))
                self.assertEqual(four(case.rule, case.notes, x), told)

    def test_answers_are_true_or_false(self):
        for answer in four(NET, NOTES, 0) + four(Firsts(2, 0), Notes.unknown(2), 0):
            self.assertIsInstance(answer, bool)

    def test_in_one_world(self):
        for case in CASES:
            for world, row in list(zip(case.worlds, case.cheapest))[::40]:
                notes = Notes(tuple((price, price) for price in world))
                for x in case.meaning.all:
                    every, some = all(x in lot for lot in row), any(x in lot for lot in row)
                    self.assertEqual(four(case.rule, notes, x), (every, some, every, some))

    def test_examples(self):
        equal = Notes(((3, 3), (3, 3)))
        self.assertEqual(four(Firsts(2, 1), equal, 0), (False, True, False, True))
        self.assertEqual(four(Firsts(2, 1), Notes(((0, 2), (2, 3))), 0), (False, True, True, True))
        self.assertEqual(four(Firsts(2, 1), Notes(((0, 3), (2, 2))), 0), (False, False, True, True))
        self.assertEqual(four(Firsts(2, 1), Notes(((0, 1), (2, TOP))), 1), (False, False, False, False))
        self.assertEqual([four(Firsts(1, 0), Notes.unknown(1), 0), four(Rule(1), Notes.unknown(1), 0)], [
            (False,) * 4, (True,) * 4,
        ])

    def test_errors_in_order(self):
        for notes in (NOTES, Notes.unknown(5, pairs=((0, 1),))):
            refuses_things(self, 5, lambda thing: four(NET, notes, thing))
        for size in (0, 4, 6):
            self.assertEqual(raised(four, NET, Notes.unknown(size), None), ("OtherSize", {"size": size}))


class SafeLotTest(unittest.TestCase):
    def candidate(self, case):
        """Return the lot B of point 58."""
        found = ()
        for _, x in sorted((stretch, x) for x, stretch in enumerate(case.known.stretches)):
            if with_things(found, (x,)) in case.meaning.free:
                found = with_things(found, (x,))
        return found

    def test_every_small_rule(self):
        safe = 0
        for case in PLAIN_CASES:
            found = safe_lot(case.rule, case.notes)
            if any(case.is_safe(lot) for lot in case.meaning.lots):
                safe += len(case.meaning.lots) > 1
                self.assertEqual(found, self.candidate(case))
                self.assertTrue(case.is_safe(found))
            else:
                self.assertIsNone(found)
        self.assertGreater(safe, 30)

    def test_sure_lots_are_safe(self):
        for case in PLAIN_CASES:
            if sure_lot(case.rule, case.notes) is not None:
                self.assertEqual(safe_lot(case.rule, case.notes), sure_lot(case.rule, case.notes))

    def test_examples(self):
        notes = Notes(((0, 1), (0, 0)))
        self.assertEqual([sure_lot(Firsts(2, 1), notes), safe_lot(Firsts(2, 1), notes)], [None, (1,)])
        # The lot of the lows is not safe here.
        self.assertEqual(lot_of(Firsts(2, 1), notes.lows), (0,))
        self.assertEqual([safe_lot(Rule(0), Notes(())), safe_lot(Firsts(2, 0), Notes.unknown(2))], [(), ()])
        self.assertEqual([safe_lot(NET, NOTES), safe_lot(Rule(2), Notes.unknown(2))], [None, (0, 1)])

    def test_errors_in_order(self):
        compared = Notes.unknown(3, pairs=((0, 1),))
        self.assertEqual(raised(safe_lot, Firsts(3, 1), compared), ("NotPlain", {}))
        self.assertEqual(raised(safe_lot, Firsts(2, 1), compared), ("OtherSize", {"size": 3}))
        self.assertEqual(raised(safe_lot, Firsts(2, 1), Notes(())), ("OtherSize", {"size": 0}))

    def test_wide(self):
        for place, rule in enumerate(WIDE_RULES + DEEP_RULES[::3]):
            notes = wide_notes(rule.size, place, 0)
            found = safe_lot(rule, notes)
            seen = notes.after(range(rule.size), notes.highs)
            self.assertIsNone(unsafe(rule, seen, safe_lot(rule, seen)))
            if found is not None:
                self.assertIsNone(unsafe(rule, notes, found))


class UnsafeTest(unittest.TestCase):
    def test_every_small_rule(self):
        for case in CASES:
            highs, lows = case.notes.highs, case.notes.lows
            for lot, pairs in case.finder.exchanges.items():
                found = unsafe(case.rule, case.notes, list(lot))
                self.assertEqual(found is None, case.is_safe(lot))
                if found is not None:
                    wrong = [
                        (e, f) for e, f in pairs
                        if f not in later_of(case.known.size, case.known.pairs, e) and highs[e] > lows[f]
                    ]
                    (e, f), world = found
                    self.assertEqual([(e, f), world], [wrong[0], case.notes.latest(e)])
                    other = with_things(without_things(lot, (e,)), (f,))
                    self.assertLess(price_in(world, other), price_in(world, lot))

    def test_a_row_makes_an_exchange_safe(self):
        notes = Notes.unknown(2, pairs=((0, 1),))
        self.assertIsNone(unsafe(Firsts(2, 1), notes, (0,)))
        self.assertEqual(unsafe(Firsts(2, 1), notes, (1,)), ((1, 0), (0, TOP)))
        self.assertIsNone(unsafe(Firsts(2, 1), Notes(((0, 3), (3, 9))), [0]))
        self.assertIsNone(unsafe(Firsts(2, 1), Notes(((3, 9), (0, 3))), [1]))
        self.assertEqual(unsafe(Firsts(2, 1), Notes(((0, 4), (3, 9))), [0]), ((0, 1), (4, 3)))
        self.assertGreater(len([case for case in OTHER_CASES if len(case.meaning.lots) > 1]), 100)

    def test_errors_in_order(self):
        for notes in (NOTES, Notes.unknown(5, pairs=((0, 1),))):
            refuses_sets(self, 5, lambda lot: unsafe(NET, notes, lot))
            self.assertEqual(raised(unsafe, NET, notes, [0, 1, 2]), ("NotALot", {"things": (0, 1, 2)}))
        self.assertEqual(raised(unsafe, NET, Notes.unknown(4), None), ("OtherSize", {"size": 4}))


class TurnedTest(unittest.TestCase):
    def test_lots_and_verdicts(self):
        swapped = {"in": "out", "out": "in", "unsettled": "unsettled"}
        for case in CASES[::3]:
            turned, notes = Turned(case.rule), ~case.notes
            for world, lot in list(zip(case.worlds, case.found))[::9]:
                self.assertEqual(lot_of(turned, turned_world(world)), turned_rest(case.known.size, lot))
            told = [swapped[case.judged(x)] for x in case.meaning.all]
            self.assertEqual(verdicts(turned, notes), told[::-1])

    def test_sure_possible_and_safe(self):
        for case in CASES[::3]:
            turned, notes = Turned(case.rule), ~case.notes
            for lot in case.meaning.lots:
                rest = turned_rest(case.known.size, lot)
                self.assertEqual(rest, without_things(case.meaning.all, turned_of(case.known.size, lot)))
                self.assertEqual(doubt(turned, notes, rest) is None, case.possible() == [lot])
                self.assertEqual(world_for(turned, notes, rest) is not None, lot in case.found)
                self.assertEqual(unsafe(turned, notes, rest) is None, case.is_safe(lot))

    def test_works(self):
        turned = Turned(Works((1, 1, 0)))
        self.assertEqual(verdicts(turned, Notes(((0, 1), (5, 6), (2, 5)))), ["in", "unsettled", "unsettled"])
        self.assertEqual(verdicts(turned, Notes(((0, 1), (5, 6), (2, 4)))), ["in", "out", "in"])
