"""Points 23, 24, 27 and 28: Many, the lot of a world, and nested lots."""

import random
import unittest

from tests.kinds import DEEP_RULES, FIRSTS, MANY_RULES, PLAIN_RULES, SMALL_RULES, SUM_RULES, TEAMS, WIDE_RULES
from tests.meaning import all_sets, check_rule, divisible_sets, many_meaning, raised
from unseenprices.counting import Firsts, Teams
from unseenprices.many import Many, greatest, loosest
from unseenprices.nets import Net
from unseenprices.rules import Rule, basis
from unseenprices.sets import TOP, along_keys
from unseenprices.sums import Sum

FEW_RULES = [(rule, meaning) for rule, meaning in PLAIN_RULES if meaning.size <= 4]
WRONG_NUMBERS = (0, -1, -7, None, "1", (1,))


def answers(rule):
    return [rule.is_free(things) for things in all_sets(rule.size)]


class MeaningTest(unittest.TestCase):
    def test_every_kind(self):
        for rule, meaning in MANY_RULES:
            check_rule(self, rule, meaning)

    def test_ranks_as_point_23_tells(self):
        for rule, meaning in MANY_RULES:
            k = rule.number
            for things in meaning.sets[::3]:
                found = [len(things) - len(part) + k * rule.rule.rank(part) for part in meaning.parts(things)]
                self.assertEqual(rule.rank(things), min(found))

    def test_attributes(self):
        net = Net(3, ((0, 1), (0, 1), (1, 2)))
        rule = Many(net, 2)
        self.assertIs(rule.rule, net)
        self.assertEqual([rule.number, rule.size, len(rule), rule.full], [2, 3, 3, 3])
        self.assertIsInstance(rule, Rule)
        outer = Many(rule, 3)
        self.assertIs(outer.rule, rule)
        self.assertEqual([outer.number, rule.number], [3, 2])

    def test_wrong_numbers(self):
        for wrong in WRONG_NUMBERS:
            self.assertEqual(raised(Many, Firsts(2, 1), wrong), ("BadNumber", {"name": "k"}))
            self.assertEqual(raised(Many, Rule(0), wrong), ("BadNumber", {"name": "k"}))

    def test_edges(self):
        self.assertEqual([Many(Rule(0), 3).lots(), Many(Rule(3), 2).lots()], [[()], [(0, 1, 2)]])
        none = Many(Firsts(3, 0), 9)
        self.assertEqual([none.full, none.dead(), none.lots()], [0, (0, 1, 2), [()]])
        self.assertEqual(Many(Firsts(4, 1), 10 ** 30).lots(), [(0, 1, 2, 3)])

    def test_too_many_for_lots(self):
        self.assertEqual(len(Many(Firsts(10, 2), 2).lots()), 210)
        for rule in WIDE_RULES + DEEP_RULES:
            self.assertEqual(raised(Many(rule, 2).lots), ("TooMany", {"number": rule.size}))


class SameRulesTest(unittest.TestCase):
    """Point 24."""

    def test_one(self):
        for rule, meaning in SMALL_RULES:
            self.assertEqual(answers(Many(rule, 1)), [things in meaning.free for things in meaning.sets])

    def test_many_over_many(self):
        for rule, meaning in FEW_RULES:
            for j, k in ((1, 2), (2, 1), (2, 2), (3, 2)):
                check_rule(self, Many(Many(rule, j), k), many_meaning(meaning, j * k))

    def test_firsts(self):
        for size, a in FIRSTS:
            for k in (1, 2, 3):
                self.assertEqual(answers(Many(Firsts(size, a), k)), answers(Firsts(size, a * k)))

    def test_teams(self):
        for classes, places in TEAMS:
            for k in (1, 2, 3):
                wider = Teams(classes, tuple(most * k for most in places))
                self.assertEqual(answers(Many(Teams(classes, places), k)), answers(wider))

    def test_sums(self):
        for rule, _ in SUM_RULES:
            for k in (2, 3):
                many = Sum(*[Many(one, k) for one in rule.rules])
                self.assertEqual(answers(Many(rule, k)), answers(many))


class GreatestTest(unittest.TestCase):
    def check_set(self, many, things):
        held, loose = greatest(many, list(things)), loosest(many, list(things))
        rank = many.rank(things)
        self.assertLessEqual(set(held), set(things))
        self.assertEqual(held, tuple(sorted(set(held))))
        self.assertTrue(many.is_free(held))
        self.assertEqual(len(held), rank)
        self.assertLessEqual(set(loose), set(things))
        self.assertEqual(loose, tuple(sorted(set(loose))))
        self.assertEqual(len(things) - len(loose) + many.number * many.rule.rank(loose), rank)

    def test_small(self):
        for rule, meaning in MANY_RULES:
            fitting = divisible_sets_of(rule)
            for things in meaning.sets:
                self.check_set(rule, things)
                self.assertIn(greatest(rule, things), fitting)

    def test_wide(self):
        chance = random.Random(10)
        for rule in WIDE_RULES + DEEP_RULES:
            for k in (1, 2, 3, 100):
                many = Many(rule, k)
                for part in (0.5, 1.1):
                    self.check_set(many, tuple(x for x in range(rule.size) if chance.random() < part))

    def test_nothing(self):
        for rule, _ in MANY_RULES:
            self.assertEqual([greatest(rule, ()), loosest(rule, [])], [(), ()])

    def test_errors_and_lists(self):
        rule = Many(Firsts(3, 1), 2)
        for call in (greatest, loosest):
            for things, place in (((3,), 0), ((0, 0), 1), ([1, 0], 1), ((0, None), 1), (("1",), 0), ([0, 1, -1], 2)):
                self.assertEqual(raised(call, rule, things), ("BadSet", {"place": place}))
            things = [0, 1, 2]
            call(rule, things)
            self.assertEqual(things, [0, 1, 2])


def divisible_sets_of(many):
    """Return the k-free sets of the rule under a Many, worked out from that rule's free sets."""
    class Frees:
        size = many.size
        free = {things for things in all_sets(many.size) if many.rule.is_free(things)}
    return divisible_sets(Frees, many.number)


class NestedLotsTest(unittest.TestCase):
    """Points 27 and 28: keys, the lot of a world, and lots for greater k."""

    def worlds(self, size):
        chance = random.Random(11)
        return [
            tuple([7] * size), tuple([0, TOP][x % 2] for x in range(size)), tuple([TOP] * size),
            *[tuple(chance.randrange(4) for _ in range(size)) for _ in range(4)],
        ]

    def test_order_of_the_keys(self):
        self.assertEqual(along_keys((5, 0, TOP, 0, 5)), [1, 3, 0, 4, 2])
        self.assertEqual([along_keys(()), along_keys((3, 3))], [[], [0, 1]])
        for world in self.worlds(5):
            row = along_keys(world)
            self.assertEqual([(world[x], x) for x in row], sorted((world[x], x) for x in row))

    def test_nested(self):
        for rule, _ in PLAIN_RULES + SUM_RULES:
            for world in self.worlds(rule.size):
                self.check_nested(rule, along_keys(world))

    def test_nested_wide(self):
        for rule in WIDE_RULES + DEEP_RULES[::3]:
            for world in self.worlds(rule.size)[1:4]:
                self.check_nested(rule, along_keys(world))

    def check_nested(self, rule, row):
        lots = [basis(Many(rule, k), row) for k in (1, 2, 3, 4)]
        self.assertEqual(lots[0], basis(rule, row))
        for one, other in zip(lots, lots[1:]):
            self.assertLessEqual(set(one), set(other))
