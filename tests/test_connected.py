"""Points 18 to 20: connected parts, circuits through two things, and what a set lacks."""

import unittest

from tests.kinds import DEEP_RULES, PLAIN_RULES, SMALL_RULES, SUM_RULES, WIDE_RULES
from tests.meaning import raised, shares_of, turned_of, without_things
from unseenprices.connected import joined, lacks, part_of, parts
from unseenprices.counting import Firsts, Teams
from unseenprices.nets import Net
from unseenprices.rules import Rule
from unseenprices.shapes import Drawn, Less
from unseenprices.sums import Sum
from unseenprices.turned import Turned

NET = Net(4, ((0, 1), (1, 2), (0, 2), (2, 3), (2, 3)))
FEW_RULES = [(rule, meaning) for rule, meaning in PLAIN_RULES if meaning.size <= 4]


def circuits_with(meaning, one, other):
    return [circuit for circuit in meaning.circuits if one in circuit and other in circuit]


def plain_parts(meaning):
    """Return the classes of the things that are the same or together in a circuit."""
    found = [tuple(y for y in meaning.all if x == y or circuits_with(meaning, x, y)) for x in meaning.all]
    return [part for place, part in enumerate(found) if part not in found[:place]]


class PartsTest(unittest.TestCase):
    def test_against_the_circuits(self):
        for rule, meaning in SMALL_RULES:
            found = parts(rule)
            self.assertIsInstance(found, list)
            self.assertEqual(found, plain_parts(meaning))
            self.assertEqual(sorted(x for part in found for x in part), list(meaning.all))
            for thing in meaning.all:
                self.assertIn(thing, part_of(rule, thing))
                self.assertIn(part_of(rule, thing), found)

    def test_order(self):
        net = Net(6, ((0, 1), (2, 3), (4, 5), (2, 3), (0, 1), (0, 0)))
        self.assertEqual(parts(net), [(0, 4), (1, 3), (2,), (5,)])

    def test_dead_and_firm_things_are_alone(self):
        for rule, meaning in SMALL_RULES:
            for thing in meaning.dead() + meaning.firm():
                self.assertEqual(part_of(rule, thing), (thing,))

    def test_edges(self):
        self.assertEqual([parts(Rule(0)), parts(Rule(2)), parts(Firsts(2, 0))], [[], [(0,), (1,)], [(0,), (1,)]])
        self.assertEqual(parts(Firsts(4, 2)), [(0, 1, 2, 3)])

    def test_errors_and_new_lists(self):
        for rule, meaning in PLAIN_RULES:
            for thing in (meaning.size, -1, None, "0", (0,)):
                self.assertEqual(raised(part_of, rule, thing), ("BadThing", {"thing": thing}))
            parts(rule).append(None)
            self.assertEqual(parts(rule), plain_parts(meaning))


class JoinedTest(unittest.TestCase):
    def test_against_the_circuits(self):
        for rule, meaning in SMALL_RULES:
            for one in meaning.all:
                for other in meaning.all:
                    found = joined(rule, one, other)
                    if one == other:
                        self.assertEqual(found, ())
                    elif part_of(rule, one) == part_of(rule, other):
                        self.assertIn(found, circuits_with(meaning, one, other))
                    else:
                        self.assertIsNone(found)

    def test_example(self):
        self.assertEqual([parts(NET), joined(NET, 0, 2), joined(NET, 0, 3), lacks(NET, (0, 3))],
                         [[(0, 1, 2), (3, 4)], (0, 1, 2), None, 2])

    def test_the_same_thing(self):
        rule = Teams((0, 1, 1), (0, 2))
        self.assertEqual([rule.dead(), rule.firm()], [(0,), (1, 2)])
        self.assertEqual([joined(rule, x, x) for x in range(3)], [(), (), ()])
        self.assertEqual([joined(rule, 0, 1), joined(rule, 1, 2)], [None, None])

    def test_wide(self):
        for rule in WIDE_RULES + DEEP_RULES:
            found = parts(rule)
            for part in found:
                if len(part) > 1:
                    circuit = joined(rule, part[-1], part[0])
                    self.assertTrue(part[0] in circuit and part[-1] in circuit)
                    self.assertFalse(rule.is_free(circuit))
                    for thing in circuit:
                        self.assertTrue(rule.is_free(without_things(circuit, (thing,))))
            if len(found) > 1:
                self.assertIsNone(joined(rule, found[0][0], found[1][0]))

    def test_errors(self):
        for rule, meaning in PLAIN_RULES:
            for wrong in (meaning.size, -1, None, "0", (0,)):
                told = ("BadThing", {"thing": wrong})
                self.assertEqual(raised(joined, rule, wrong, 99), told)
                self.assertEqual(raised(joined, rule, wrong, wrong), told)
                if meaning.size:
                    self.assertEqual(raised(joined, rule, wrong, 0), told)
                    self.assertEqual(raised(joined, rule, 0, wrong), told)


class LacksTest(unittest.TestCase):
    def test_against_the_ranks(self):
        for rule, meaning in SMALL_RULES:
            whole = plain_parts(meaning)
            for things in meaning.sets:
                rest = without_things(meaning.all, things)
                lacking = meaning.ranks[things] + meaning.ranks[rest] - meaning.full
                self.assertEqual(lacks(rule, list(things)), lacking)
                self.assertGreaterEqual(lacking, 0)
                self.assertEqual(lacking == 0, all(set(part) <= set(things) or not set(part) & set(things)
                                                   for part in whole))
                shares = [tuple(x for x in part if x in things) for part in whole]
                self.assertEqual(meaning.ranks[things], sum(meaning.ranks[share] for share in shares))

    def test_nothing_and_everything(self):
        for rule in WIDE_RULES + DEEP_RULES:
            self.assertEqual([lacks(rule, ()), lacks(rule, list(range(rule.size)))], [0, 0])
            for part in parts(rule):
                self.assertEqual(lacks(rule, part), 0)
                if len(part) > 1:
                    self.assertGreater(lacks(rule, part[1:]), 0)

    def test_errors(self):
        for things, place in (((5,), 0), ((0, 0), 1), ([1, 0], 1), ((0, None), 1), (("1",), 0), ((0, 1, -1), 2)):
            self.assertEqual(raised(lacks, NET, things), ("BadSet", {"place": place}))
        self.assertEqual(raised(lacks, Rule(0), (0,)), ("BadSet", {"place": 0}))


class PartsOfShapesTest(unittest.TestCase):
    """Point 20."""

    def test_turned(self):
        for rule, meaning in SMALL_RULES:
            turned = sorted(turned_of(meaning.size, part) for part in plain_parts(meaning))
            self.assertEqual(parts(Turned(rule)), turned)

    def test_sums(self):
        for rule, _ in SUM_RULES:
            sizes = [part.size for part in rule.rules]
            shares = [shares_of(sizes, part) for part in parts(rule)]
            for place, one in enumerate(rule.rules):
                self.assertEqual([share[place] for share in shares if share[place]], parts(one))
        self.assertEqual(parts(Sum(NET, NET)), [(0, 1, 2), (3, 4), (5, 6, 7), (8, 9)])

    def test_less_and_drawn(self):
        for rule, meaning in FEW_RULES:
            whole = plain_parts(meaning)
            for gone in meaning.sets:
                for shape in (Less(rule, gone), Drawn(rule, gone)):
                    found = parts(shape)
                    self.assertGreaterEqual(len(found), len(whole))
                    for part in found:
                        self.assertTrue(any(set(part) <= set(one) for one in whole))
                    for thing in gone:
                        self.assertIn((thing,), found)
