"""Points 113 and 114: comparing plans."""

import random
import unittest
from itertools import combinations, permutations

from tests.asking import NET
from tests.kinds import DEEP_RULES, SMALL_RULES, WIDE_RULES
from tests.meaning import raised
from tests.refusals import refuses_orders
from tests.test_chains import ORDERS, true_in
from unseenprices.chains import fewest_along, shown_along
from unseenprices.champions import comparing
from unseenprices.connected import parts
from unseenprices.counting import Firsts, Teams
from unseenprices.nets import Net
from unseenprices.rules import Rule
from unseenprices.sums import Sum
from unseenprices.turned import Turned


def is_fitting(rule):
    return all(rule.rank(part) in (0, 1, len(part) - 1, len(part)) for part in parts(rule))


def told_comparisons(rule, order):
    """Return the comparisons of the plan as point 114 words it."""
    found = []
    for part in parts(rule):
        for place in range(1, len(part)):
            lesser = sorted(part[:place], key=order.index)
            other = lesser[0] if rule.rank(part) == 1 else lesser[-1]
            found.append(tuple(sorted((part[place], other), key=order.index)))
    return found


class ComparingTest(unittest.TestCase):
    def test_every_order(self):
        some = 0
        for orders in ORDERS:
            rule = orders.rule
            for order, lot in orders.lots.items():
                found = comparing(rule, list(order))
                self.assertEqual(found is None, not is_fitting(rule))
                if found is not None:
                    self.assertEqual(found, told_comparisons(rule, order))
                    self.assertTrue(true_in(order, found))
                    self.assertIs(shown_along(rule, order, found), True)
                    self.assertEqual(len(found), rule.size - len(parts(rule)))
                else:
                    some += 1
        self.assertGreater(some, 0)

    def test_it_is_a_plan(self):
        # What it compares next depends on the answers so far alone.
        for orders in ORDERS[::3]:
            if is_fitting(orders.rule):
                asked = {}
                for order in orders.lots:
                    row = comparing(orders.rule, order)
                    for place, pair in enumerate(row):
                        told = tuple(sorted(pair))
                        self.assertEqual(asked.setdefault(tuple(row[:place]), told), told)

    def test_fewer_than_four_things(self):
        for rule, meaning in SMALL_RULES:
            if meaning.size < 4:
                self.assertIsNotNone(comparing(rule, meaning.all))

    def test_examples(self):
        self.assertEqual(comparing(Firsts(4, 1), (3, 1, 2, 0)), [(1, 0), (1, 2), (3, 1)])
        self.assertEqual(comparing(Firsts(4, 3), (3, 1, 2, 0)), [(1, 0), (2, 0), (3, 0)])
        self.assertEqual(comparing(Firsts(4, 3), (0, 1, 2, 3)), [(0, 1), (1, 2), (2, 3)])
        self.assertEqual(comparing(NET, (4, 2, 0, 3, 1)), [(0, 1), (2, 1), (4, 3)])
        self.assertEqual(comparing(Teams((1, 0, 1, 0), (1, 1)), [3, 2, 1, 0]), [(2, 0), (3, 1)])
        for order in permutations(range(4)):
            self.assertIsNone(comparing(Firsts(4, 2), order))
        self.assertIsNone(comparing(Sum(Firsts(2, 1), Firsts(4, 2)), range(6)))

    def test_three_comparisons_are_not_enough_for_every_order(self):
        # Point 114: for this rule each plan makes four or more in some order, though three show the lot of each.
        rule, orders = Firsts(4, 2), list(permutations(range(4)))
        self.assertEqual({len(fewest_along(rule, order)) for order in orders}, {3})

        def enough(pairs, left):
            """Return whether some plan needs at most so many more comparisons behind these ones."""
            fitting = [order for order in orders if true_in(order, pairs)]
            if not fitting or shown_along(rule, fitting[0], pairs):
                return True
            return left > 0 and any(
                enough([*pairs, (x, y)], left - 1) and enough([*pairs, (y, x)], left - 1)
                for x, y in combinations(range(4), 2)
            )
        self.assertFalse(enough([], 3))
        self.assertTrue(enough([], 5))

    def test_edges(self):
        self.assertEqual(comparing(Rule(0), ()), [])
        self.assertEqual([comparing(Rule(3), (2, 1, 0)), comparing(Firsts(3, 0), (2, 1, 0))], [[], []])
        self.assertEqual(comparing(Firsts(2, 1), (1, 0)), [(1, 0)])

    def test_orders_come_first(self):
        for size in (0, 1, 3, 4, 5):
            refuses_orders(self, size, lambda order: comparing(Firsts(size, 2), order))
        self.assertEqual(raised(comparing, Firsts(4, 2), (0, 1, 2)), ("BadOrder", {"place": 3}))

    def test_new_lists(self):
        order = [2, 0, 1]
        comparing(Firsts(3, 1), order).append(None)
        self.assertEqual([comparing(Firsts(3, 1), order), order], [[(0, 1), (2, 0)], [2, 0, 1]])

    def test_wide(self):
        chance = random.Random(114)
        circle = Net(12, [(x, (x + 1) % 12) for x in range(12)])
        rules = WIDE_RULES + DEEP_RULES[::4] + [circle, Sum(circle, Firsts(4, 1)), Firsts(16, 15), Turned(circle)]
        many = 0
        for rule in rules:
            order = tuple(chance.sample(range(rule.size), rule.size))
            found = comparing(rule, order)
            self.assertEqual(found is None, not is_fitting(rule))
            if found is not None:
                many += len(found) > 3
                self.assertEqual(len(found), rule.size - len(parts(rule)))
                self.assertIs(shown_along(rule, order, found), True)
        self.assertGreater(many, 4)
