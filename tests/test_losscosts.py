"""Point 126: what losses cost."""

import random
import unittest

from tests.asking import COMPARED, NET, NOTES, SMALL, WORLD
from tests.cases import PLAIN_CASES, every_integer, price_in
from tests.kinds import DEEP_RULES, SMALL_RULES, WIDE_RULES
from tests.meaning import raised, without_things
from tests.refusals import refuses_sets, refuses_worlds
from tests.test_standins import some_worlds
from tests.test_surelots import wide_notes
from unseenprices.blows import is_blow
from unseenprices.counting import Firsts
from unseenprices.critical import worth, worth_reach
from unseenprices.losscosts import loss_cost, loss_reach, loss_worlds
from unseenprices.notes import Notes
from unseenprices.reaches import cheapest
from unseenprices.rules import Rule
from unseenprices.sets import TOP
from unseenprices.shapes import Less


def told_cost(meaning, world, things):
    """Return the cost of the loss, from the prices of all lots; None if it is a blow."""
    left = [price_in(world, lot) for lot in meaning.lots if not {*lot} & {*things}]
    return min(left) - min(price_in(world, lot) for lot in meaning.lots) if left else None


class CostTest(unittest.TestCase):
    def test_every_set(self):
        for rule, meaning in SMALL_RULES[::2]:
            for world in some_worlds(meaning.size, 1):
                for things in meaning.sets:
                    told = told_cost(meaning, world, things)
                    if told is None:
                        wrong = ("IsBlow", {"things": things})
                        self.assertEqual(raised(loss_cost, rule, world, list(things)), wrong)
                    else:
                        self.assertEqual(loss_cost(rule, list(world), list(things)), told)

    def test_greater_losses_cost_as_much(self):
        for rule, meaning in SMALL_RULES[::5]:
            world = some_worlds(meaning.size, 1)[2]
            for things in meaning.sets:
                for x in things:
                    if not is_blow(rule, things):
                        less = without_things(things, (x,))
                        self.assertLessEqual(loss_cost(rule, world, less), loss_cost(rule, world, things))

    def test_one_thing(self):
        for rule, meaning in SMALL_RULES[::3]:
            world = some_worlds(meaning.size, 1)[-1]
            for x in without_things(meaning.all, meaning.firm()):
                self.assertEqual(loss_cost(rule, world, (x,)), worth(rule, world, x))

    def test_examples(self):
        self.assertEqual([loss_cost(NET, WORLD, (0,)), loss_cost(NET, WORLD, ())], [3, 0])
        self.assertEqual(loss_cost(Firsts(2, 1), (0, TOP), (0,)), TOP)
        self.assertEqual([loss_cost(Rule(0), (), ()), loss_cost(Firsts(2, 0), (0, TOP), (0, 1))], [0, 0])


class ReachTest(unittest.TestCase):
    def test_every_integer(self):
        for case in PLAIN_CASES[::2]:
            for things in case.meaning.sets:
                if told_cost(case.meaning, case.worlds[0], things) is None:
                    wrong = ("IsBlow", {"things": things})
                    for call in (loss_worlds, loss_reach):
                        self.assertEqual(raised(call, case.rule, case.notes, list(things)), wrong)
                    continue
                values = [
                    min(price_in(world, lot) for lot in case.meaning.lots if not {*lot} & {*things}) - price
                    for world, price in zip(case.worlds, case.prices)
                ]
                found = loss_reach(case.rule, case.notes, list(things))
                every_integer(self, values, found)
                ends = loss_worlds(case.rule, case.notes, list(things))
                self.assertIsInstance(ends, tuple)
                self.assertEqual(tuple(values[case.worlds.index(world)] for world in ends), found)

    def test_worlds(self):
        for case in PLAIN_CASES[::9]:
            stretches = case.known.stretches
            for things in case.meaning.sets:
                if not is_blow(case.rule, things):
                    least = tuple(b if x in things else a for x, (a, b) in enumerate(stretches))
                    most = tuple(a if x in things else b for x, (a, b) in enumerate(stretches))
                    self.assertEqual(loss_worlds(case.rule, case.notes, things), (least, most))

    def test_one_thing(self):
        for case in PLAIN_CASES[::3]:
            for x in without_things(case.meaning.all, case.meaning.firm()):
                found = loss_reach(case.rule, case.notes, (x,))
                self.assertEqual(found, worth_reach(case.rule, case.notes, x))

    def test_examples(self):
        self.assertEqual(loss_reach(NET, NOTES, (0,)), (0, 5))
        self.assertEqual(loss_worlds(NET, NOTES, [0]), ((4, 2, 3, 0, 4), (1, 2, 6, 5, 4)))
        self.assertEqual(loss_reach(Firsts(2, 1), Notes.unknown(2), (1,)), (0, TOP))
        self.assertEqual([loss_reach(Rule(0), Notes(()), ()), loss_worlds(Rule(0), Notes(()), ())], [(0, 0), ((), ())])


class ErrorsTest(unittest.TestCase):
    def test_errors_in_order(self):
        refuses_worlds(self, 5, lambda world: loss_cost(NET, world, (9,)))
        refuses_sets(self, 5, lambda things: loss_cost(NET, WORLD, things))
        self.assertEqual(raised(loss_cost, NET, WORLD, [0, 1]), ("IsBlow", {"things": (0, 1)}))
        for call in (loss_worlds, loss_reach):
            refuses_sets(self, 5, lambda things: call(NET, NOTES, things))
            self.assertEqual(raised(call, NET, NOTES, [0, 1]), ("IsBlow", {"things": (0, 1)}))
            self.assertEqual(raised(call, NET, COMPARED, [0, 1]), ("NotPlain", {}))
            self.assertEqual(raised(call, SMALL, COMPARED, None), ("OtherSize", {"size": 5}))

    def test_lists_stay(self):
        world, things = list(WORLD), [0]
        loss_cost(NET, world, things)
        loss_worlds(NET, NOTES, things)
        loss_reach(NET, NOTES, things)
        self.assertEqual([world, things], [list(WORLD), [0]])


class WideTest(unittest.TestCase):
    def test_sixteen_things(self):
        chance = random.Random(126)
        for place, rule in enumerate(WIDE_RULES + DEEP_RULES[::4]):
            notes = wide_notes(rule.size, place, 0)
            things = tuple(x for x in range(rule.size) if chance.random() < 0.2 and x not in rule.firm())
            if is_blow(rule, things):
                self.assertEqual(raised(loss_reach, rule, notes, things), ("IsBlow", {"things": things}))
                continue
            least, most = loss_reach(rule, notes, things)
            for world in (notes.lows, notes.highs, notes.latest(3)):
                cost = loss_cost(rule, world, things)
                self.assertEqual(cost, cheapest(Less(rule, things), world) - cheapest(rule, world))
                self.assertTrue(least <= cost <= most)
