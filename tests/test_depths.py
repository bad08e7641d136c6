"""Points 128 to 131: depths and stocks."""

import random
import unittest
from itertools import combinations

from tests.asking import COMPARED, NET, NOTES, SMALL, WORLD
from tests.cases import CASES
from tests.kinds import SMALL_RULES, WIDE_RULES
from tests.knowing import key
from tests.meaning import raised, with_things, without_things
from tests.refusals import NO_COUNTS, refuses_things, refuses_worlds
from tests.test_blows import TWELVE
from tests.test_standins import left_of, some_worlds
from tests.test_surelots import wide_notes
from unseenprices.blows import is_blow
from unseenprices.choosing import lot_of
from unseenprices.counting import Firsts
from unseenprices.depths import depth, depth_ends, depth_loss, stock
from unseenprices.judging import verdict
from unseenprices.many import Many
from unseenprices.notes import Notes
from unseenprices.rules import Rule
from unseenprices.sets import TOP
from unseenprices.shapes import Less
from unseenprices.sums import Sum
from unseenprices.turned import Turned
from unseenprices.worlds import before, turned_world


def taken_without(meaning, world, things):
    """Return the lot of the world behind a loss, which may be a blow, taken along the keys."""
    found = ()
    for x in sorted(without_things(meaning.all, things), key=lambda x: key(world, x)):
        if tuple(sorted((*found, x))) in meaning.free:
            found = tuple(sorted((*found, x)))
    return found


class Losses:
    """The lots that all losses leave in a world."""

    def __init__(self, meaning, world):
        self.meaning, self.world = meaning, world
        self.left = {things: taken_without(meaning, world, things) for things in meaning.sets}

    def depth(self, x):
        """Return the least number of things in a loss without x that brings x into the lot."""
        return min(len(things) for things, lot in self.left.items() if x in lot)


class DepthTest(unittest.TestCase):
    def test_every_loss(self):
        some = []
        for rule, meaning in SMALL_RULES[::2]:
            for world in some_worlds(meaning.size, 1):
                losses = Losses(meaning, world)
                for x in meaning.all:
                    if x in meaning.dead():
                        for call in (depth, depth_loss):
                            self.assertEqual(raised(call, rule, world, x), ("IsDead", {"thing": x}))
                        continue
                    told = losses.depth(x)
                    self.assertEqual(depth(rule, list(world), x), told)
                    self.check_loss(rule, losses, x, depth_loss(rule, list(world), x), told)
                    some.append(told)
        self.assertGreater(some.count(2), 50)
        self.assertGreater(max(some), 3)

    def check_loss(self, rule, losses, x, found, told):
        self.assertIsInstance(found, tuple)
        self.assertEqual([found, len(found)], [tuple(sorted(found)), told])
        self.assertLessEqual({*found}, {*before(losses.world, x)})
        self.assertIn(x, losses.left[found])
        self.assertFalse(is_blow(rule, found))
        self.assertEqual(told == 0, x in losses.left[()])

    def test_the_span_of_what_is_before(self):
        # Point 128, the other words: the least subset of the things before x without which x is outside their span.
        for rule, meaning in SMALL_RULES[::5]:
            world = some_worlds(meaning.size, 1)[-1]
            for x in without_things(meaning.all, meaning.dead()):
                ahead = before(world, x)
                fitting = [
                    len(things) for things in meaning.sets
                    if {*things} <= {*ahead} and x not in meaning.span(without_things(ahead, things))
                ]
                self.assertEqual(depth(rule, world, x), min(fitting))

    def test_ends(self):
        for case in CASES[::2]:
            losses = {}
            for x in case.meaning.all:
                if x in case.meaning.dead():
                    self.assertEqual(raised(depth_ends, case.rule, case.notes, x), ("IsDead", {"thing": x}))
                    continue
                values = []
                for world in case.worlds[::2] + [case.notes.earliest(x), case.notes.latest(x)]:
                    # The depth depends on what is before x alone.
                    ahead = before(world, x)
                    if (x, ahead) not in losses:
                        losses[x, ahead] = depth(case.rule, world, x)
                    values.append(losses[x, ahead])
                found = depth_ends(case.rule, case.notes, x)
                self.assertIsInstance(found, tuple)
                self.assertEqual(found, (min(values), max(values)))
                self.assertEqual(found, (values[-2], values[-1]))

    def test_turned(self):
        # Point 130.
        for rule, meaning in SMALL_RULES[::7]:
            world = some_worlds(meaning.size, 1)[-1]
            for x in without_things(meaning.all, meaning.firm()):
                ahead = before(world, x)
                behind = [y for y in meaning.all if y != x and y not in ahead]
                fitting = [
                    many for many in range(len(behind) + 1)
                    if any(x in meaning.span(with_things(ahead, things)) for things in combinations(behind, many))
                ]
                self.assertEqual(depth(Turned(rule), turned_world(world), meaning.size - 1 - x), min(fitting))

    def test_examples(self):
        self.assertEqual([depth(NET, WORLD, x) for x in range(5)], [0, 0, 1, 0, 1])
        self.assertIn(depth_loss(NET, WORLD, 2), ((0,), (1,)))
        self.assertEqual([depth_loss(NET, WORLD, 4), depth_loss(NET, WORLD, 0)], [(3,), ()])
        self.assertEqual([depth(Firsts(5, 2), (3, 3, 3, 3, 3), x) for x in range(5)], [0, 0, 1, 2, 3])
        self.assertEqual(depth_ends(Firsts(3, 1), Notes(((0, 0), (0, 5), (1, 9))), 2), (1, 2))
        self.assertEqual(depth_ends(Firsts(3, 1), Notes.unknown(3, pairs=((1, 0), (2, 1))), 0), (2, 2))
        self.assertEqual([depth_ends(NET, NOTES, x) for x in (1, 2)], [(0, 0), (0, 1)])
        self.assertEqual(depth_ends(Firsts(3, 1), Notes.unknown(3), 1), (0, 2))
        rule = Sum(Rule(1), Firsts(2, 0))
        self.assertEqual([depth(rule, (TOP, 0, 0), 0), depth_ends(rule, Notes.unknown(3), 0)], [0, (0, 0)])

    def test_errors_in_order(self):
        rule = Sum(Rule(1), Firsts(2, 0))
        for call in (depth, depth_loss):
            refuses_worlds(self, 3, lambda world: call(rule, world, 1))
            refuses_things(self, 3, lambda thing: call(rule, (1, 2, 3), thing))
            self.assertEqual(raised(call, rule, (1, 2, 3), 2), ("IsDead", {"thing": 2}))
        refuses_things(self, 3, lambda thing: depth_ends(rule, Notes.unknown(3), thing))
        self.assertEqual(raised(depth_ends, rule, Notes.unknown(3), 1), ("IsDead", {"thing": 1}))
        self.assertEqual(raised(depth_ends, SMALL, COMPARED, None), ("OtherSize", {"size": 5}))
        # Notes with comparisons are welcome.
        self.assertEqual(depth_ends(NET, COMPARED, 1), (0, 1))


class StockTest(unittest.TestCase):
    def test_every_loss(self):
        for rule, meaning in SMALL_RULES[::4]:
            for world in some_worlds(meaning.size, 1)[1:]:
                losses = Losses(meaning, world)
                for k in (1, 2, 3, 9):
                    found = stock(rule, list(world), k)
                    self.assertEqual(found, lot_of(Many(rule, k), world))
                    for things, lot in losses.left.items():
                        if len(things) < k:
                            self.assertLessEqual({*lot}, {*found})
                self.assertEqual(stock(rule, world, 1), left_of(meaning, world, ()))

    def test_depths(self):
        for rule, meaning in SMALL_RULES[::6]:
            world = some_worlds(meaning.size, 1)[-1]
            for x in without_things(meaning.all, meaning.dead()):
                self.assertIn(x, stock(rule, world, depth(rule, world, x) + 1))

    def test_out_of_the_stock(self):
        for case in CASES[::15]:
            for k in (1, 2, 3):
                many = Many(case.rule, k)
                outs = [x for x in case.meaning.all if verdict(many, case.notes, x) == "out"]
                for world in case.worlds[::11]:
                    for things in case.meaning.sets:
                        if len(things) < k:
                            self.assertFalse({*outs} & {*taken_without(case.meaning, world, things)})

    def test_examples(self):
        self.assertEqual([stock(NET, WORLD, k) for k in (1, 2, 3)], [(0, 1, 3), (0, 1, 2, 3, 4), (0, 1, 2, 3, 4)])
        self.assertEqual(stock(Firsts(5, 2), (9, 0, 9, 0, 0), 2), (0, 1, 3, 4))
        self.assertEqual([stock(Rule(0), (), 3), stock(Firsts(2, 0), (0, 1), 3)], [(), ()])
        # A thing of the stock may have a greater depth than k - 1.
        rule = Firsts(4, 2)
        self.assertEqual([stock(rule, (0, 1, 2, 3), 2), depth(rule, (0, 1, 2, 3), 3)], [(0, 1, 2, 3), 2])

    def test_errors_in_order(self):
        refuses_worlds(self, 5, lambda world: stock(NET, world, 0))
        for wrong in (0, *NO_COUNTS):
            self.assertEqual(raised(stock, NET, WORLD, wrong), ("BadNumber", {"name": "k"}))
        world = list(WORLD)
        stock(NET, world, 2)
        depth(NET, world, 2)
        depth_loss(NET, world, 2)
        self.assertEqual(world, list(WORLD))


class WideTest(unittest.TestCase):
    def test_twelve_things(self):
        chance = random.Random(128)
        for rule in TWELVE:
            world = tuple(chance.randrange(4) for _ in range(12))
            notes = Notes([(max(0, price - 1), price + 1) for price in world])
            for x in without_things(range(12), rule.dead())[::3]:
                found = depth_loss(rule, world, x)
                self.assertEqual(depth(rule, world, x), len(found))
                self.assertIn(x, lot_of(Less(rule, found), world))
                for y in found:
                    self.assertNotIn(x, lot_of(Less(rule, without_things(found, (y,))), world))
                least, most = depth_ends(rule, notes, x)
                self.assertTrue(least <= len(found) <= most)
                self.assertEqual(least, depth(rule, notes.earliest(x), x))
                self.assertEqual(most, depth(rule, notes.latest(x), x))

    def test_stocks_of_sixteen_things(self):
        for place, rule in enumerate(WIDE_RULES):
            world = wide_notes(rule.size, place, 0).lows
            for k in (1, 2, 3):
                found = stock(rule, world, k)
                self.assertEqual(found, lot_of(Many(rule, k), world))
                lost = lot_of(rule, world)[:k - 1]
                self.assertLessEqual({*lot_of(Less(rule, lost), world)}, {*found})
