"""Points 97 and 98: what comparisons alone show, and the fewest that show the lot of an order."""

import random
import unittest
from itertools import combinations, permutations

from tests.asking import NET
from tests.kinds import DEEP_RULES, SMALL_RULES, WIDE_RULES
from tests.knowing import Lots, all_pairs
from tests.meaning import raised
from tests.refusals import no_pairs, refuses_orders
from unseenprices.chains import fewest_along, lot_along, other_order, shown_along
from unseenprices.choosing import lot_of
from unseenprices.connected import parts
from unseenprices.counting import Firsts, Teams
from unseenprices.notes import Notes
from unseenprices.rules import Rule
from unseenprices.surelots import sure_lot
from unseenprices.worlds import world_along


def true_in(order, pairs):
    return all(order.index(x) < order.index(y) for x, y in pairs)


def held_true(order):
    """Return all comparisons that are true in the order."""
    return [(x, y) for place, x in enumerate(order) for y in order[place + 1:]]


class Orders:
    """A rule of few things with the lots of all orders, found among all its lots."""

    def __init__(self, rule, meaning):
        self.rule = rule
        self.meaning = meaning
        finder = Lots(meaning)
        self.lots = {order: finder.taken(world_along(order)) for order in permutations(meaning.all)}

    def fitting(self, pairs):
        """Return all orders in which the comparisons are true."""
        return [order for order in self.lots if true_in(order, pairs)]

    def shows(self, pairs):
        return len({self.lots[order] for order in self.fitting(pairs)}) == 1


ORDERS = [
    Orders(rule, meaning) for place, (rule, meaning) in enumerate(SMALL_RULES)
    if meaning.size <= 3 or meaning.size == 4 and (len(meaning.lots) > 1 and place % 3 == 0 or len(meaning.lots) > 4)
]


class ShownTest(unittest.TestCase):
    def check(self, orders, order, pairs):
        """Hold both functions against all orders in which the comparisons are true."""
        shows = orders.shows(pairs)
        self.assertIs(shown_along(orders.rule, list(order), list(pairs)), shows)
        found = other_order(orders.rule, order, tuple(pairs))
        self.assertEqual(found is None, shows)
        if found is not None:
            self.assertIsInstance(found, tuple)
            self.assertTrue(true_in(found, pairs))
            self.assertNotEqual(orders.lots[found], orders.lots[order])
        return shows

    def test_every_order(self):
        chance = random.Random(97)
        some = []
        for orders in ORDERS:
            for order, lot in orders.lots.items():
                self.assertEqual(lot_along(orders.rule, list(order)), lot)
                held = held_true(order)
                self.assertTrue(self.check(orders, order, held))
                some.append(self.check(orders, order, [pair for pair in held if chance.random() < 0.5]))
        self.assertGreater(min(some.count(True), some.count(False)), 300)

    def test_every_choice_of_comparisons(self):
        for orders in ORDERS[::9]:
            order = list(orders.lots)[len(orders.lots) // 2]
            held = held_true(order)
            for many in range(len(held) + 1):
                for pairs in combinations(held, many):
                    self.check(orders, order, pairs)

    def test_as_sure_lots(self):
        for orders in ORDERS[::5]:
            for order, lot in list(orders.lots.items())[::3]:
                for pairs in (held_true(order)[::2], held_true(order)[1::2]):
                    notes = Notes.unknown(orders.meaning.size, pairs=pairs)
                    self.assertEqual(shown_along(orders.rule, order, pairs), sure_lot(orders.rule, notes) == lot)

    def test_twice_and_following(self):
        rule = Firsts(3, 1)
        self.assertIs(shown_along(rule, (2, 0, 1), [(2, 0), (0, 1), (2, 0)]), True)
        self.assertIs(shown_along(rule, (2, 0, 1), [(2, 0), (0, 1), (2, 1)]), True)
        self.assertIs(shown_along(rule, (2, 0, 1), [(2, 0), (2, 0)]), False)
        found = other_order(rule, (2, 0, 1), [(2, 0), (2, 0)])
        self.assertEqual([found[0], true_in(found, [(2, 0)])], [1, True])

    def test_edges(self):
        self.assertEqual([lot_along(Rule(0), ()), fewest_along(Rule(0), [])], [(), []])
        self.assertIs(shown_along(Rule(0), (), []), True)
        self.assertIsNone(other_order(Rule(2), (1, 0), ()))
        self.assertIsNone(other_order(Firsts(2, 0), (1, 0), ()))
        self.assertEqual([fewest_along(Rule(3), (2, 1, 0)), fewest_along(Firsts(3, 0), (2, 1, 0))], [[], []])
        self.assertEqual(other_order(Firsts(2, 1), (1, 0), []), (0, 1))


class FewestTest(unittest.TestCase):
    def test_every_order(self):
        for orders in ORDERS:
            many = orders.meaning.size - len(parts(orders.rule))
            for order in orders.lots:
                found = fewest_along(orders.rule, list(order))
                self.assertIsInstance(found, list)
                self.assertEqual([found, len(found)], [sorted(found), many])
                self.assertTrue(true_in(order, found))
                self.assertIs(shown_along(orders.rule, order, found), True)
                for pair in found:
                    left = [one for one in found if one != pair]
                    self.assertIs(shown_along(orders.rule, order, left), False)

    def test_as_point_98_names_them(self):
        for orders in ORDERS[::2]:
            for order in orders.lots:
                told = []
                for part in parts(orders.rule):
                    row = sorted(part, key=order.index)
                    told += list(zip(row, row[1:]))
                self.assertEqual(fewest_along(orders.rule, order), sorted(told))

    def test_no_fewer_show_the_lot(self):
        for orders in ORDERS[::4]:
            for order in list(orders.lots)[::5]:
                many = len(fewest_along(orders.rule, order))
                for pairs in combinations(held_true(order), max(0, many - 1)) if many else ():
                    self.assertFalse(orders.shows(pairs))
                for pairs in combinations(held_true(order), many):
                    if orders.shows(pairs):
                        # As many as are needed: then none of them can be left out.
                        self.assertFalse(any(orders.shows([one for one in pairs if one != out]) for out in pairs))

    def test_examples(self):
        self.assertEqual(fewest_along(Firsts(3, 1), (2, 0, 1)), [(0, 1), (2, 0)])
        self.assertEqual(fewest_along(NET, (4, 2, 0, 3, 1)), [(0, 1), (2, 0), (4, 3)])
        self.assertEqual(fewest_along(Teams((0, 1, 0, 1), (1, 1)), [3, 2, 1, 0]), [(2, 0), (3, 1)])
        self.assertEqual(fewest_along(Firsts(4, 2), (3, 0, 2, 1)), [(0, 2), (2, 1), (3, 0)])

    def test_new_lists(self):
        order, pairs = [2, 0, 1], [(2, 0)]
        fewest_along(Firsts(3, 1), order).append(None)
        self.assertEqual(fewest_along(Firsts(3, 1), order), [(0, 1), (2, 0)])
        other_order(Firsts(3, 1), order, pairs)
        shown_along(Firsts(3, 1), order, pairs)
        lot_along(Firsts(3, 1), order)
        self.assertEqual([order, pairs], [[2, 0, 1], [(2, 0)]])


class ErrorsTest(unittest.TestCase):
    def test_orders(self):
        for size in (0, 1, 3, 5):
            for call in (lot_along, fewest_along):
                refuses_orders(self, size, lambda order: call(Rule(size), order))
            for call in (shown_along, other_order):
                for pairs in ([], [None], [(1, 0), (0, 1)]):
                    refuses_orders(self, size, lambda order: call(Rule(size), order, pairs))

    def test_pairs(self):
        for call in (shown_along, other_order):
            for wrong in no_pairs(3):
                self.assertEqual(raised(call, Firsts(3, 1), (2, 1, 0), [wrong]), ("BadPair", {"place": 0}))
                # A comparison that is not true comes behind one that is none.
                row = ((0, 1), (2, 0), wrong, None)
                self.assertEqual(raised(call, Firsts(3, 1), (2, 1, 0), row), ("BadPair", {"place": 2}))

    def test_not_true(self):
        for call in (shown_along, other_order):
            for order in permutations(range(3)):
                for x, y in all_pairs(3):
                    told = None if order.index(x) < order.index(y) else ("NotTrue", {"place": 0})
                    self.assertEqual(raised(call, Firsts(3, 1), order, [(x, y)]), told)
            pairs = [(2, 1), (2, 0), (0, 1), (1, 2)]
            self.assertEqual(raised(call, Firsts(3, 1), (2, 1, 0), pairs), ("NotTrue", {"place": 2}))


class WideTest(unittest.TestCase):
    def test_sixteen_things(self):
        chance = random.Random(98)
        for rule in WIDE_RULES + DEEP_RULES[::3]:
            order = tuple(chance.sample(range(rule.size), rule.size))
            lot = lot_along(rule, order)
            self.assertEqual(lot, lot_of(rule, world_along(order)))
            found = fewest_along(rule, order)
            self.assertEqual(len(found), rule.size - len(parts(rule)))
            self.assertIsNone(other_order(rule, order, found))
            if found:
                other = other_order(rule, order, found[1:])
                self.assertTrue(true_in(other, found[1:]))
                self.assertNotEqual(lot_along(rule, other), lot)
            held = held_true(order)
            pairs = [chance.choice(held) for _ in range(60)]
            self.assertEqual(shown_along(rule, order, pairs), other_order(rule, order, pairs) is None)
