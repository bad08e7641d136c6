"""Point 15: sums of rules."""

import inspect
import unittest

from tests.kinds import PLAIN_RULES, SUM_RULES
from tests.meaning import all_sets, check_rule, raised, shares_of
from unseenprices.counting import Firsts, Teams, Works
from unseenprices.nets import Net
from unseenprices.rules import Rule, basis
from unseenprices.sums import Sum

FEW_RULES = [(rule, meaning) for rule, meaning in PLAIN_RULES if meaning.size <= 3]


def answers(rule):
    return [rule.is_free(things) for things in all_sets(rule.size)]


def moved(things, by):
    return tuple(x + by for x in things)


class MeaningTest(unittest.TestCase):
    def test_meaning(self):
        for rule, meaning in SUM_RULES:
            check_rule(self, rule, meaning)

    def test_ranks_add_up(self):
        for rule, meaning in SUM_RULES:
            for things in meaning.sets:
                shares = shares_of([part.size for part in rule.rules], things)
                self.assertEqual(rule.rank(things), sum(part.rank(one) for part, one in zip(rule.rules, shares)))

    def test_lots_circuits_and_exchanges(self):
        for rule, meaning in FEW_RULES[::3]:
            for other, meant in FEW_RULES[::4]:
                self.check_two(rule, meaning, other, meant)

    def check_two(self, rule, meaning, other, meant):
        n = meaning.size
        two = Sum(rule, other)
        self.assertEqual(two.lots(), sorted(one + moved(more, n) for one in meaning.lots for more in meant.lots))
        for one in meaning.lots:
            for more in meant.lots:
                lot = one + moved(more, n)
                pairs = meaning.exchanges(one) + [moved(pair, n) for pair in meant.exchanges(more)]
                self.assertEqual(two.exchanges(lot), pairs)
                for x in range(n):
                    if x not in one:
                        self.assertEqual(two.circuit(lot, x), meaning.circuit(one, x))
                for x in range(meant.size):
                    if x not in more:
                        self.assertEqual(two.circuit(lot, x + n), moved(meant.circuit(more, x), n))

    def test_three_and_more(self):
        rows = [rule for rule, _ in FEW_RULES if rule.size in (1, 2)][:6]
        for one in rows:
            for other in rows:
                for third in rows:
                    flat = answers(Sum(one, other, third))
                    self.assertEqual(flat, answers(Sum(Sum(one, other), third)))
                    self.assertEqual(flat, answers(Sum(one, Sum(other, third))))

    def test_a_rule_without_things(self):
        for rule, meaning in FEW_RULES:
            for wide in (Sum(rule, Rule(0)), Sum(Rule(0), rule), Sum(Rule(0), rule, Firsts(0, 0))):
                check_rule(self, wide, meaning)
        self.assertEqual([Sum(Rule(0), Rule(0)).lots(), Sum(Rule(0), Rule(0)).size], [[()], 0])

    def test_the_same_rule_twice(self):
        rule = Firsts(2, 1)
        self.assertEqual(answers(Sum(rule, rule)), answers(Teams((0, 0, 1, 1), (1, 1))))

    def test_sixteen_things(self):
        net = Net(4, ((0, 1), (1, 2), (2, 3), (3, 0), (0, 2), (1, 3)))
        rule = Sum(net, Works((1, 1, 2, 3)), net)
        self.assertEqual([rule.size, rule.full, len(rule)], [16, 9, 16])
        lot = basis(rule, range(16))
        self.assertEqual(lot, (0, 1, 2, 6, 8, 9, 10, 11, 12))
        pairs = net.exchanges((0, 1, 2)) + [(6, 7)] + [moved(pair, 10) for pair in net.exchanges((0, 1, 2))]
        self.assertEqual(rule.exchanges(lot), pairs)


class InterfaceTest(unittest.TestCase):
    def test_parameters(self):
        one, other, third = Firsts(2, 1), Rule(0), Works((1, 2))
        self.assertEqual(Sum(one, other).rules, (one, other))
        self.assertEqual(Sum(one, other, third, one).rules, (one, other, third, one))
        self.assertIsInstance(Sum(one, other, third), Rule)
        rest = inspect.signature(Sum).parameters["rest"]
        self.assertEqual(rest.kind, inspect.Parameter.VAR_POSITIONAL)

    def test_a_sum_stays_one_rule(self):
        inner = Sum(Firsts(1, 1), Firsts(2, 1))
        outer = Sum(inner, Firsts(1, 0))
        self.assertEqual(len(outer.rules), 2)
        self.assertIs(outer.rules[0], inner)
        self.assertEqual(outer.shares((1, 2, 3)), [(1, 2), (0,)])
        self.assertEqual([outer.home(2), inner.home(2)], [(0, 2), (1, 1)])

    def test_defined_in_the_class(self):
        self.assertTrue(callable(vars(Sum)["shares"]) and callable(vars(Sum)["home"]))

    def test_shares(self):
        for rule, meaning in SUM_RULES:
            for things in meaning.sets:
                found = rule.shares(list(things))
                self.assertEqual(found, shares_of([part.size for part in rule.rules], things))
                self.assertIsInstance(found, list)
                found.append(None)
                self.assertEqual(len(rule.shares(things)), len(rule.rules))

    def test_home(self):
        for rule, meaning in SUM_RULES:
            homes = [(place, x) for place, part in enumerate(rule.rules) for x in range(part.size)]
            self.assertEqual([rule.home(x) for x in meaning.all], homes)

    def test_errors(self):
        for rule, meaning in SUM_RULES:
            n = meaning.size
            for things, place in (((n,), 0), ((-1,), 0), ([*range(n), None], n), ([*range(n), n], n), (("0",), 0)):
                self.assertEqual(raised(rule.shares, things), ("BadSet", {"place": place}))
            for thing in (n, -1, None, "0", (0,)):
                self.assertEqual(raised(rule.home, thing), ("BadThing", {"thing": thing}))
        rule = Sum(Firsts(2, 1), Firsts(2, 1))
        for things in ((1, 1), [2, 0], (1, 0, 9)):
            self.assertEqual(raised(rule.shares, things), ("BadSet", {"place": 1}))

    def test_lists_stay(self):
        rule, things = Sum(Firsts(2, 1), Firsts(2, 1)), [0, 3]
        rule.shares(things)
        self.assertEqual(things, [0, 3])
