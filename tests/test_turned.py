"""Points 16 and 17: turned rules, over and under other shapes."""

import unittest

from tests.kinds import DEEP_RULES, MIXED_RULES, PLAIN_RULES, SHAPE_RULES, SUM_RULES, TURNED_RULES, WIDE_RULES
from tests.meaning import all_sets, check_rule, turned_of
from unseenprices.counting import Firsts
from unseenprices.nets import Net
from unseenprices.rules import Rule, basis
from unseenprices.shapes import Cut, Drawn, Less
from unseenprices.sums import Sum
from unseenprices.turned import Turned

FEW_RULES = [(rule, meaning) for rule, meaning in PLAIN_RULES if meaning.size <= 4]


def answers(rule):
    return [rule.is_free(things) for things in all_sets(rule.size)]


def rest_of(size, things):
    return turned_of(size, [x for x in range(size) if x not in things])


class MeaningTest(unittest.TestCase):
    def test_every_kind_turned(self):
        for rule, meaning in TURNED_RULES:
            check_rule(self, rule, meaning)

    def test_over_and_under_other_shapes(self):
        self.assertGreater(len(MIXED_RULES), 100)
        for rule, meaning in MIXED_RULES:
            check_rule(self, rule, meaning)

    def test_example(self):
        turned = Turned(Net(3, ((0, 1), (0, 1), (1, 2))))
        self.assertEqual([turned.lots(), turned.dead()], [[(1,), (2,)], (0,)])

    def test_attributes(self):
        net = Net(3, ((0, 1), (0, 1), (1, 2)))
        turned = Turned(net)
        self.assertIs(turned.rule, net)
        self.assertEqual([turned.size, len(turned), turned.full], [3, 3, 1])
        self.assertIs(Turned(turned).rule, turned)
        self.assertIsInstance(turned, Rule)


class TurningTest(unittest.TestCase):
    """What point 16 says of a rule and its turned rule."""

    def test_lots_are_turned_rests(self):
        for rule, meaning in PLAIN_RULES + SUM_RULES:
            rests = sorted(rest_of(meaning.size, lot) for lot in meaning.lots)
            self.assertEqual(Turned(rule).lots(), rests)

    def test_ranks(self):
        for rule, meaning in PLAIN_RULES + SHAPE_RULES:
            turned = Turned(rule)
            for things in meaning.sets:
                rank = len(things) - meaning.full + meaning.ranks[rest_of(meaning.size, things)]
                self.assertEqual(turned.rank(things), rank)

    def test_twice(self):
        for rule, meaning in PLAIN_RULES + SHAPE_RULES + MIXED_RULES:
            check_rule(self, Turned(Turned(rule)), meaning)

    def test_dead_and_firm(self):
        for rule, meaning in PLAIN_RULES + SHAPE_RULES + MIXED_RULES:
            turned = Turned(rule)
            self.assertEqual(turned.firm(), turned_of(meaning.size, meaning.dead()))
            self.assertEqual(turned.dead(), turned_of(meaning.size, meaning.firm()))

    def test_exchanges_circuits_and_blows(self):
        for rule, meaning in PLAIN_RULES + MIXED_RULES:
            n = meaning.size
            turned = Turned(rule)
            for lot in meaning.lots:
                rest = rest_of(n, lot)
                pairs = sorted((n - 1 - f, n - 1 - e) for e, f in meaning.exchanges(lot))
                self.assertEqual(turned.exchanges(rest), pairs)
                for e in lot:
                    self.assertEqual(turned.circuit(rest, n - 1 - e), turned_of(n, meaning.blow_of(lot, e)))
                for f in [x for x in meaning.all if x not in lot]:
                    self.assertEqual(turned.blow_of(rest, n - 1 - f), turned_of(n, meaning.circuit(lot, f)))

    def test_nothing_and_everything(self):
        self.assertEqual([Turned(Rule(0)).lots(), Turned(Rule(0)).full], [[()], 0])
        self.assertEqual([Turned(Rule(3)).lots(), Turned(Rule(3)).dead()], [[()], (0, 1, 2)])
        self.assertEqual(Turned(Firsts(3, 0)).lots(), [(0, 1, 2)])
        self.assertEqual(answers(Turned(Firsts(5, 2))), answers(Firsts(5, 3)))

    def test_wide(self):
        for rule in WIDE_RULES + DEEP_RULES:
            n = rule.size
            turned = Turned(rule)
            lot = basis(rule, list(range(n))[::-1])
            rest = rest_of(n, lot)
            self.assertEqual(turned.full, n - rule.full)
            self.assertTrue(turned.is_lot(rest))
            self.assertEqual(turned.firm(), turned_of(n, rule.dead()))
            self.assertEqual(turned.exchanges(rest), sorted((n - 1 - f, n - 1 - e) for e, f in rule.exchanges(lot)))
            self.assertEqual(Turned(turned).exchanges(lot), rule.exchanges(lot))


class WithOtherShapesTest(unittest.TestCase):
    """Point 17."""

    def check_pair(self, gone, first, second):
        for things in all_sets(first.size):
            if not {*things} & {*gone}:
                self.assertEqual(first.is_free(things), second.is_free(things))
        self.assertLessEqual({*gone}, {*first.dead()})
        self.assertLessEqual({*gone}, {*second.firm()})

    def test_left_out_and_drawn_in(self):
        for rule, meaning in FEW_RULES:
            for things in meaning.sets:
                gone = turned_of(meaning.size, things)
                self.check_pair(gone, Less(Turned(rule), gone), Turned(Drawn(rule, things)))
                self.check_pair(gone, Drawn(Turned(rule), gone), Turned(Less(rule, things)))

    def test_sums(self):
        small = [rule for rule, meaning in PLAIN_RULES if meaning.size <= 2]
        for one in small:
            for other in small:
                self.assertEqual(answers(Turned(Sum(one, other))), answers(Sum(Turned(other), Turned(one))))

    def test_cut(self):
        # The turned rule of a cut one has the lots of the cut one turned, not the small sets of the turned one.
        rule = Turned(Cut(Firsts(4, 3), 2))
        self.assertEqual(answers(rule), answers(Firsts(4, 2)))
        self.assertEqual(answers(Cut(Turned(Firsts(4, 3)), 2)), answers(Firsts(4, 1)))
