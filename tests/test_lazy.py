"""Points 107 to 110: the lazy runs, and what shows lot and price."""

import unittest

from tests.asking import ASKINGS, COMPARED, NET, NOTES, OPEN, SMALL, WORLD
from tests.kinds import DEEP_RULES, WIDE_RULES
from tests.knowing import key
from tests.meaning import raised
from tests.refusals import refuses_worlds
from tests.test_surelots import wide_notes
from unseenprices.choosing import critical_key, lot_of
from unseenprices.counting import Firsts
from unseenprices.dues import forced_things
from unseenprices.lazy import lazy_above, lazy_below, lot_and_price
from unseenprices.notes import Notes
from unseenprices.papers import Told
from unseenprices.rules import Rule
from unseenprices.runs import Run
from unseenprices.sets import TOP
from unseenprices.surelots import sure_lot
from unseenprices.turned import Turned
from unseenprices.worlds import turned_world

CALLS = (lazy_below, lazy_above, lot_and_price)


def told_below(rule, notes, world):
    """Return the things that the lazy run from below asks, by their critical keys.

    They are asked in the order of their lows, because a thing that is asked does not get a lesser price.
    """
    row = sorted(notes.unseen(), key=lambda x: key(notes.lows, x))
    critical = {x: critical_key(rule, world, x) for x in row}
    return [x for x in row if critical[x] is None or key(notes.lows, x) < critical[x]]


def told_above(rule, notes, world):
    row = sorted(notes.unseen(), key=lambda x: key(notes.highs, x), reverse=True)
    critical = {x: critical_key(rule, world, x) for x in row}
    return [x for x in row if critical[x] is not None and critical[x] < key(notes.highs, x)]


def by_hand(case, world):
    """Return what the lazy run from below asks, word by word as point 107 tells it."""
    prices = {x: low for x, (low, high) in enumerate(case.known.stretches) if low == high}
    left, taken, asked = [*case.meaning.all], (), []
    while left:
        x = min(left, key=lambda one: (prices.get(one, case.notes.lows[one]), one))
        if case.meaning.ranks[tuple(sorted({*taken, x}))] == len(taken):
            left.remove(x)
        elif x in prices:
            left.remove(x)
            taken = tuple(sorted((*taken, x)))
        else:
            asked.append(x)
            prices[x] = world[x]
    return asked, taken


class LazyTest(unittest.TestCase):
    def test_every_world(self):
        for asking in ASKINGS:
            case = asking.case
            for world, lot in list(zip(case.worlds, case.found))[::2]:
                below, above = [call(case.rule, case.notes, list(world)) for call in CALLS[:2]]
                self.assertEqual((below, lot), by_hand(case, world))
                self.assertEqual(below, told_below(case.rule, case.notes, world))
                self.assertEqual(above, told_above(case.rule, case.notes, world))
                for found in (below, above):
                    self.assertIsInstance(found, list)
                    self.assertTrue(asking.is_paper(world, tuple(sorted(found))))

    def test_turned(self):
        for asking in ASKINGS[::3]:
            case = asking.case
            last = case.known.size - 1
            for world in case.worlds[::5]:
                turned = (Turned(case.rule), ~case.notes, turned_world(world))
                above = [last - x for x in lazy_above(case.rule, case.notes, world)]
                below = [last - x for x in lazy_below(case.rule, case.notes, world)]
                self.assertEqual([lazy_below(*turned), lazy_above(*turned)], [above, below])

    def test_what_both_ask(self):
        # Point 109: the due things are those that both lazy runs ask.
        for asking in ASKINGS:
            case = asking.case
            for world in case.worlds[::4]:
                below, above = [call(case.rule, case.notes, world) for call in CALLS[:2]]
                due = forced_things(case.rule, case.notes, world)
                self.assertEqual(due, tuple(sorted({*below} & {*above})))
                fewest = asking.fewest(world)
                run = Run(case.rule, case.notes)
                run.finish(world)
                self.assertTrue(len(due) <= fewest <= min(len(below), len(above), len(run.asked)))
                for found in (below, above):
                    if {*found} <= {*due}:
                        self.assertTrue(all({*found} <= {*things} for things in asking.papers(world)))

    def test_examples(self):
        self.assertEqual([lazy_below(NET, NOTES, WORLD), lazy_above(NET, NOTES, WORLD)], [[3, 0], [2, 3]])
        self.assertEqual(lazy_below(Rule(2), Notes.unknown(2), (TOP, 0)), [0, 1])
        self.assertEqual(lazy_above(Rule(2), Notes.unknown(2), (TOP, 0)), [])
        self.assertEqual(lazy_below(Firsts(2, 0), Notes.unknown(2), (TOP, 0)), [])
        self.assertEqual(lazy_above(Firsts(2, 0), Notes.unknown(2), (TOP, 0)), [1, 0])
        for call in CALLS[:2]:
            self.assertEqual(call(Rule(0), Notes(()), ()), [])
            self.assertEqual(call(Firsts(2, 1), Notes(((4, 4), (4, 4))), (4, 4)), [])

    def test_new_lists(self):
        world = list(WORLD)
        for call in CALLS[:2]:
            before = list(call(NET, NOTES, world))
            call(NET, NOTES, world).append(None)
            self.assertEqual(call(NET, NOTES, world), before)
        lot_and_price(NET, NOTES, world)
        self.assertEqual(world, list(WORLD))


class LotAndPriceTest(unittest.TestCase):
    def test_every_set(self):
        for asking in ASKINGS:
            case = asking.case
            prices, others = {}, {}
            for world, price in zip(case.worlds, case.prices):
                for things in asking.sets:
                    prices.setdefault(asking.left(world, things), set()).add(price)
                    others.setdefault(asking.left(world, things), set()).add(sum(world) - price)
            for world in case.worlds[::4]:
                needed = lot_and_price(case.rule, case.notes, list(world))
                self.assertEqual(needed, tuple(sorted(lazy_below(case.rule, case.notes, world))))
                above = lazy_above(case.rule, case.notes, world)
                for things in asking.sets:
                    left = asking.left(world, things)
                    sure = asking.is_paper(world, things)
                    self.assertEqual(sure and len(prices[left]) == 1, {*needed} <= {*things})
                    self.assertEqual(sure and len(others[left]) == 1, {*above} <= {*things})

    def test_as_point_110_words_it(self):
        for asking in OPEN[::2]:
            case = asking.case
            for world, lot in list(zip(case.worlds, case.found))[::5]:
                forced = forced_things(case.rule, case.notes, world)
                told = [x for x in asking.unseen if x in lot or x in forced]
                self.assertEqual(lot_and_price(case.rule, case.notes, world), tuple(told))
                told = [x for x in asking.unseen if x not in lot or x in forced]
                self.assertEqual(sorted(lazy_above(case.rule, case.notes, world)), told)

    def test_examples(self):
        self.assertEqual(lot_and_price(NET, NOTES, WORLD), (0, 3))
        self.assertEqual(lot_and_price(Firsts(2, 1), Notes(((0, 5), (4, 9))), (5, 5)), (0, 1))
        self.assertEqual(lot_and_price(Rule(0), Notes(()), ()), ())


class ErrorsTest(unittest.TestCase):
    def test_errors_in_order(self):
        for call in CALLS:
            refuses_worlds(self, 5, lambda world: call(NET, NOTES, world))
            self.assertEqual(raised(call, NET, NOTES, [0, 2, 9, 1, 4]), ("NotAgreeing", {"thing": 0}))
            self.assertEqual(raised(call, NET, COMPARED, None), ("NotPlain", {}))
            self.assertEqual(raised(call, SMALL, COMPARED, None), ("OtherSize", {"size": 5}))


class WideTest(unittest.TestCase):
    def test_sixteen_things(self):
        for place, rule in enumerate(WIDE_RULES + DEEP_RULES[::3]):
            notes = wide_notes(rule.size, place, 0)
            for world in (notes.lows, notes.latest(place % rule.size)):
                below, above = lazy_below(rule, notes, world), lazy_above(rule, notes, world)
                self.assertEqual(below, told_below(rule, notes, world))
                self.assertEqual(above, told_above(rule, notes, world))
                self.assertEqual(lot_and_price(rule, notes, world), tuple(sorted(below)))
                self.assertLessEqual(Told(rule, notes, world).fewest, min(len(below), len(above)))
                for found in (below, above):
                    self.assertEqual(sure_lot(rule, notes.after(sorted(found), world)), lot_of(rule, world))
