"""Points 72 to 74, 76 and 77: regret, gaps, more notes, shapes."""

import random
import unittest

from tests.cases import PLAIN_CASES, every_integer, price_in
from tests.kinds import DEEP_RULES, WIDE_RULES
from tests.meaning import check_swaps, raised, without_things
from tests.refusals import refuses_sets
from tests.test_surelots import wide_notes
from unseenprices.choosing import lot_of
from unseenprices.counting import Firsts
from unseenprices.nets import Net
from unseenprices.notes import Notes
from unseenprices.reaches import cheapest, price_reach
from unseenprices.regrets import gaps, regret, regret_reach, regret_worlds, swap_row
from unseenprices.rules import Rule, swaps
from unseenprices.sets import TOP, turned_rest
from unseenprices.shapes import Less
from unseenprices.sums import Sum
from unseenprices.turned import Turned
from unseenprices.worlds import turned_world

NET = Net(4, [(0, 1), (1, 2), (0, 2), (2, 3), (2, 3)])
NOTES = Notes([(1, 4), (2, 2), (3, 6), (0, 5), (4, 4)])
CALLS = (regret, regret_worlds, regret_reach, gaps, swap_row)


def regrets(case, lot):
    """Return the regret of the lot in each agreeing world."""
    return [price_in(world, lot) - price for world, price in zip(case.worlds, case.prices)]


class RegretTest(unittest.TestCase):
    def test_every_small_rule(self):
        for case in PLAIN_CASES:
            for lot in case.meaning.lots:
                values = regrets(case, lot)
                reach = regret_reach(case.rule, case.notes, list(lot))
                every_integer(self, values, reach)
                self.assertEqual(regret(case.rule, case.notes, list(lot)), reach[1])
                self.assertEqual(reach[1] == 0, case.is_safe(lot))
                self.assertEqual(reach[0] == 0, any(lot in row for row in case.cheapest))

    def test_worlds(self):
        for case in PLAIN_CASES:
            for lot in case.meaning.lots:
                values = regrets(case, lot)
                found = regret_worlds(case.rule, case.notes, list(lot))
                self.assertIsInstance(found, tuple)
                least = tuple(a if x in lot else b for x, (a, b) in enumerate(case.known.stretches))
                most = tuple(b if x in lot else a for x, (a, b) in enumerate(case.known.stretches))
                self.assertEqual(found, (least, most))
                ends = [values[case.worlds.index(world)] for world in found]
                self.assertEqual(ends, [min(values), max(values)])

    def test_examples(self):
        self.assertEqual([regret_reach(NET, NOTES, (0, 1, 3)), regret(NET, NOTES, (0, 1, 3))], [(0, 2), 2])
        self.assertEqual(regret_worlds(NET, NOTES, (0, 1, 3)), ((1, 2, 6, 0, 4), (4, 2, 3, 5, 4)))
        self.assertEqual([regret(Rule(0), Notes(()), ()), regret(Firsts(2, 0), Notes.unknown(2), ())], [0, 0])
        self.assertEqual(regret_reach(Firsts(2, 1), Notes.unknown(2), (0,)), (0, TOP))
        self.assertEqual(regret_reach(Firsts(2, 1), Notes(((5, 6), (1, 3))), (0,)), (2, 5))
        self.assertEqual(regret_reach(Rule(2), Notes.unknown(2), (0, 1)), (0, 0))

    def test_errors_in_order(self):
        compared = Notes.unknown(5, pairs=((0, 1),))
        for call in CALLS:
            refuses_sets(self, 5, lambda lot: call(NET, NOTES, lot))
            for wrong in ((), (0, 1), (0, 1, 2), (0, 1, 2, 3)):
                self.assertEqual(raised(call, NET, NOTES, list(wrong)), ("NotALot", {"things": wrong}))
            self.assertEqual(raised(call, NET, compared, (9,)), ("NotPlain", {}))
            self.assertEqual(raised(call, Firsts(3, 1), compared, (9,)), ("OtherSize", {"size": 5}))


class GapsTest(unittest.TestCase):
    def test_every_small_rule(self):
        for case in PLAIN_CASES:
            for lot, pairs in case.finder.exchanges.items():
                told = [
                    (x, max([0] + [case.notes.highs[e] - case.notes.lows[f] for e, f in pairs if e == x])) for x in lot
                ]
                self.assertEqual(gaps(case.rule, case.notes, list(lot)), told)
                value = max(regrets(case, lot))
                if lot:
                    self.assertTrue(max(gap for _, gap in told) <= value <= sum(gap for _, gap in told))
                else:
                    self.assertEqual(value, 0)

    def test_examples(self):
        self.assertEqual(gaps(NET, NOTES, (0, 1, 3)), [(0, 1), (1, 0), (3, 1)])
        self.assertEqual(gaps(Rule(1), Notes.unknown(1), (0,)), [(0, 0)])
        self.assertEqual(gaps(Firsts(1, 0), Notes.unknown(1), ()), [])

    def test_new_lists(self):
        gaps(NET, NOTES, (0, 1, 3)).append(None)
        swap_row(NET, NOTES, (0, 1, 3)).append(None)
        self.assertEqual(len(gaps(NET, NOTES, (0, 1, 3))), 3)
        self.assertEqual(swap_row(NET, NOTES, (0, 1, 3)), [(0, 2), (3, 4)])
        lot = [0, 1, 3]
        swap_row(NET, NOTES, lot)
        self.assertEqual(lot, [0, 1, 3])


class SwapRowTest(unittest.TestCase):
    def test_every_small_rule(self):
        for case in PLAIN_CASES:
            for lot in case.meaning.lots:
                row = swap_row(case.rule, case.notes, list(lot))
                self.assertIsInstance(row, list)
                most = tuple(b if x in lot else a for x, (a, b) in enumerate(case.known.stretches))
                goal = case.finder.lot(most)
                check_swaps(self, case.rule, row, lot, goal)
                total = sum(case.notes.highs[e] - case.notes.lows[f] for e, f in row)
                self.assertEqual(total, max(regrets(case, lot)))
                if goal == lot:
                    self.assertEqual(row, [])

    def test_no_row_adds_up_to_more_than_the_regret(self):
        for case in PLAIN_CASES:
            for lot in case.meaning.lots[:4]:
                most = max(regrets(case, lot))
                for other in case.meaning.lots:
                    row = swaps(case.rule, lot, other)
                    self.assertLessEqual(sum(case.notes.highs[e] - case.notes.lows[f] for e, f in row), most)

    def test_example(self):
        self.assertEqual(swap_row(NET, NOTES, (0, 1, 3)), [(0, 2), (3, 4)])
        self.assertEqual(swap_row(Firsts(2, 1), Notes(((0, 1), (2, 3))), (0,)), [])


class MoreNotesTest(unittest.TestCase):
    def test_regret_falls_and_the_ends_come_nearer(self):
        chance = random.Random(92)
        for case in PLAIN_CASES:
            world = chance.choice(case.worlds)
            things = tuple(x for x in case.meaning.all if chance.random() < 0.4)
            more = case.notes.after(things, world)
            (least, most), (low, high) = price_reach(case.rule, case.notes), price_reach(case.rule, more)
            self.assertTrue(least <= low <= high <= most)
            for lot in case.meaning.lots:
                self.assertLessEqual(regret(case.rule, more, lot), regret(case.rule, case.notes, lot))


class ShapesTest(unittest.TestCase):
    def test_sums(self):
        small = [case for case in PLAIN_CASES if case.meaning.size <= 4][::15]
        for one, other in zip(small, small[1:]):
            rule, notes = Sum(one.rule, other.rule), one.notes + other.notes
            lot, second = one.meaning.lots[-1], other.meaning.lots[0]
            whole = lot + tuple(x + one.known.size for x in second)
            total = regret(one.rule, one.notes, lot) + regret(other.rule, other.notes, second)
            self.assertEqual(regret(rule, notes, whole), total)
            world = one.worlds[-1] + other.worlds[0]
            self.assertEqual(cheapest(rule, world), one.prices[-1] + other.prices[0])

    def test_turned(self):
        for case in PLAIN_CASES[::3]:
            turned = Turned(case.rule)
            for lot in case.meaning.lots:
                found = regret(turned, ~case.notes, turned_rest(case.known.size, lot))
                self.assertEqual(found, regret(case.rule, case.notes, lot))
            outside = case.known.size - case.meaning.full
            for world, price in list(zip(case.worlds, case.prices))[::9]:
                self.assertEqual(cheapest(turned, turned_world(world)), outside * TOP - sum(world) + price)

    def test_less(self):
        for case in PLAIN_CASES[::3]:
            for lot in case.meaning.lots:
                gone = without_things(case.meaning.all, lot)[:1]
                rule = Less(case.rule, gone)
                self.assertLessEqual(regret(rule, case.notes, lot), regret(case.rule, case.notes, lot))

    def test_wide(self):
        for place, rule in enumerate(WIDE_RULES + DEEP_RULES[::3]):
            notes = wide_notes(rule.size, place, 0)
            for lot in (lot_of(rule, notes.lows), lot_of(rule, notes.highs)):
                least, most = regret_reach(rule, notes, lot)
                row = swap_row(rule, notes, lot)
                self.assertEqual(sum(notes.highs[e] - notes.lows[f] for e, f in row), most)
                found = [gap for _, gap in gaps(rule, notes, lot)]
                self.assertTrue(max([0, *found]) <= most <= sum(found))
                self.assertEqual([least, regret(rule, notes, lot)], [0, most])
