"""Points 66 to 68: the cheapest price, what it takes over the agreeing worlds, the prices of two lots."""

import random
import unittest

from tests.cases import CASES, PLAIN_CASES, every_integer, price_in
from tests.kinds import DEEP_RULES, WIDE_RULES
from tests.meaning import raised
from tests.refusals import refuses_sets, refuses_worlds
from tests.test_surelots import wide_notes
from unseenprices.choosing import lot_of, price_of
from unseenprices.counting import Firsts
from unseenprices.nets import Net
from unseenprices.notes import Notes
from unseenprices.reaches import between_lots, cheapest, price_reach, world_at
from unseenprices.rules import Rule
from unseenprices.sets import TOP

NET = Net(4, [(0, 1), (1, 2), (0, 2), (2, 3), (2, 3)])
NOTES = Notes([(1, 4), (2, 2), (3, 6), (0, 5), (4, 4)])
COMPARED = Notes([(1, 4), (2, 2), (3, 6), (0, 5), (4, 4)], pairs=[(1, 0), (2, 4), (3, 2)])


class CheapestTest(unittest.TestCase):
    def test_every_small_rule(self):
        for case in CASES:
            for world, row in list(zip(case.worlds, case.cheapest))[::5]:
                self.assertEqual(cheapest(case.rule, list(world)), price_in(world, row[0]))

    def test_one_price_more(self):
        for case in CASES:
            for world, row in list(zip(case.worlds, case.cheapest))[::20]:
                for x in case.meaning.all:
                    if world[x] < TOP:
                        grown = (*world[:x], world[x] + 1, *world[x + 1:])
                        more = 1 if all(x in lot for lot in row) else 0
                        self.assertEqual(cheapest(case.rule, grown), cheapest(case.rule, world) + more)

    def test_examples(self):
        self.assertEqual([cheapest(NET, (2, 2, 5, 1, 4)), cheapest(Rule(0), ())], [5, 0])
        self.assertEqual(cheapest(Firsts(2, 0), (5, 6)), 0)
        self.assertEqual(cheapest(Rule(16), (TOP,) * 16), 16 * TOP)

    def test_errors(self):
        for rule in (Firsts(3, 1), Rule(0), NET):
            refuses_worlds(self, rule.size, lambda world: cheapest(rule, world))


class ReachTest(unittest.TestCase):
    def test_every_small_rule(self):
        for case in CASES:
            every_integer(self, case.prices, price_reach(case.rule, case.notes))

    def test_world_at(self):
        for case in CASES:
            least, most = price_reach(case.rule, case.notes)
            for price in range(least - 2, most + 3):
                found = world_at(case.rule, case.notes, price)
                if least <= price <= most:
                    self.assertIn(found, case.worlds)
                    self.assertEqual(case.prices[case.worlds.index(found)], price)
                else:
                    self.assertIsNone(found)
            for price in (-10 ** 30, 10 ** 30, -1):
                self.assertIsNone(world_at(case.rule, case.notes, price))

    def test_examples(self):
        self.assertEqual([price_reach(NET, NOTES), price_reach(NET, COMPARED)], [(3, 10), (5, 9)])
        self.assertEqual([price_reach(Rule(0), Notes(())), world_at(Rule(0), Notes(()), 0)], [(0, 0), ()])
        self.assertEqual([world_at(Rule(0), Notes(()), 1), world_at(Rule(0), Notes(()), -1)], [None, None])
        self.assertEqual(price_reach(Firsts(2, 0), Notes.unknown(2)), (0, 0))
        self.assertEqual(price_reach(Rule(2), Notes.unknown(2)), (0, 2 * TOP))
        found = world_at(Rule(2), Notes.unknown(2, pairs=((1, 0),)), 12345)
        self.assertEqual([sum(found), found[1] < found[0]], [12345, True])

    def test_wide(self):
        for place, rule in enumerate(WIDE_RULES + DEEP_RULES[::2]):
            notes = wide_notes(rule.size, place, (0, 20, 60)[place % 3])
            least, most = price_reach(rule, notes)
            for price in range(least - 1, most + 2, max(1, (most - least) // 7)):
                found = world_at(rule, notes, price)
                self.assertEqual(found is None, not least <= price <= most)
                if found is not None:
                    self.assertTrue(notes.agrees(found))
                    self.assertEqual(cheapest(rule, found), price)

    def test_whole_stretches_with_comparisons(self):
        chance = random.Random(91)
        pairs = [tuple(chance.sample(range(16), 2)) for _ in range(60)]
        pairs = [(x, y) if x * 7 % 16 < y * 7 % 16 else (y, x) for x, y in pairs]
        for rule in WIDE_RULES[::3]:
            notes = Notes.unknown(rule.size, pairs=[pair for pair in pairs if max(pair) < rule.size])
            least, most = price_reach(rule, notes)
            for price in (least, least + 1, (least + most) // 2, most - 1, most):
                if least <= price <= most:
                    found = world_at(rule, notes, price)
                    self.assertTrue(notes.agrees(found))
                    self.assertEqual(price_of(found, lot_of(rule, found)), price)

    def test_other_size(self):
        for size in (0, 4, 6):
            for pairs in ((), ((0, 1),) if size else ()):
                told = ("OtherSize", {"size": size})
                self.assertEqual(raised(price_reach, NET, Notes.unknown(size, pairs=pairs)), told)
                self.assertEqual(raised(world_at, NET, Notes.unknown(size, pairs=pairs), 3), told)


class BetweenLotsTest(unittest.TestCase):
    def test_every_small_rule(self):
        for case in PLAIN_CASES:
            for lot in case.meaning.lots[:5]:
                for other in case.meaning.lots[-5:]:
                    values = [price_in(world, lot) - price_in(world, other) for world in case.worlds]
                    every_integer(self, values, between_lots(case.rule, case.notes, list(lot), list(other)))

    def test_examples(self):
        self.assertEqual(between_lots(NET, NOTES, (0, 1, 3), (0, 1, 4)), (-4, 1))
        self.assertEqual(between_lots(NET, NOTES, (0, 1, 4), (0, 1, 3)), (-1, 4))
        self.assertEqual(between_lots(NET, NOTES, (0, 1, 3), (0, 1, 3)), (0, 0))
        self.assertEqual(between_lots(Firsts(2, 1), Notes.unknown(2), (0,), (1,)), (-TOP, TOP))
        self.assertEqual(between_lots(Rule(0), Notes(()), (), ()), (0, 0))

    def test_errors_in_order(self):
        self.assertEqual(raised(between_lots, NET, Notes.unknown(4, pairs=((0, 1),)), None, None), (
            "OtherSize", {"size": 4},
        ))
        self.assertEqual(raised(between_lots, NET, COMPARED, (9,), (9,)), ("NotPlain", {}))
        refuses_sets(self, 5, lambda lot: between_lots(NET, NOTES, lot, (9,)))
        refuses_sets(self, 5, lambda lot: between_lots(NET, NOTES, (0, 1, 3), lot))
        self.assertEqual(raised(between_lots, NET, NOTES, [0, 1], (9,)), ("NotALot", {"things": (0, 1)}))
        self.assertEqual(raised(between_lots, NET, NOTES, (0, 1, 3), [0, 1, 2]), ("NotALot", {"things": (0, 1, 2)}))
