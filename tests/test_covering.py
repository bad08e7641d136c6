"""Points 25, 26 and 29: lots apart, covers, and what lots apart cost."""

import random
import unittest

from tests.kinds import DEEP_RULES, PLAIN_RULES, SMALL_RULES, WIDE_RULES
from tests.meaning import divisible_sets, raised, without_things
from unseenprices.counting import Firsts, Teams
from unseenprices.covering import covers, few_outside, fullest, lot_prices, lots_apart, most_apart
from unseenprices.nets import Net
from unseenprices.rules import Rule
from unseenprices.sets import TOP

RANKED_RULES = [rule for rule in WIDE_RULES + DEEP_RULES if rule.full > 0]
WRONG_NUMBERS = (-1, -7, None, "1", (1,))


def unions_apart(meaning):
    """Return a list: at place k all unions of k lots apart, as long as there are some; the rank is at least 1."""
    rows = [{()}]
    while rows[-1]:
        rows.append({
            tuple(sorted(one + lot)) for one in rows[-1] for lot in meaning.lots if not set(one) & set(lot)
        })
    return rows[:-1]


def rounded_up(many, rank):
    return -(-many // rank)


class LotsApartTest(unittest.TestCase):
    def check_lots(self, rule, k, found):
        self.assertIsInstance(found, list)
        self.assertEqual(len(found), k)
        self.assertTrue(all(rule.is_lot(lot) for lot in found))
        things = [x for lot in found for x in lot]
        self.assertEqual(len(things), len(set(things)))

    def check_few(self, rule, k, few):
        outside = rule.size - len(few)
        self.assertEqual(few, tuple(sorted(set(few))))
        self.assertLess(outside, k * (rule.full - rule.rank(few)))

    def test_every_small_rule(self):
        for rule, meaning in SMALL_RULES:
            if meaning.full > 0:
                unions = unions_apart(meaning)
                self.assertEqual(most_apart(rule), len(unions) - 1)
                for k in range(1, len(unions) + 2):
                    found, few = lots_apart(rule, k), few_outside(rule, k)
                    if k < len(unions):
                        self.check_lots(rule, k, found)
                        self.assertIsNone(few)
                    else:
                        self.assertIsNone(found)
                        self.check_few(rule, k, few)

    def test_as_point_25_tells(self):
        for rule, meaning in SMALL_RULES:
            if meaning.full > 0:
                found = [
                    (meaning.size - len(things)) // (meaning.full - meaning.ranks[things])
                    for things in meaning.sets if meaning.ranks[things] < meaning.full
                ]
                self.assertEqual(most_apart(rule), min(found))

    def test_rank_0(self):
        found = [rule for rule, meaning in SMALL_RULES if meaning.full == 0]
        self.assertGreater(len(found), 10)
        for rule in found:
            self.assertIsNone(most_apart(rule))
            for k in (1, 2, 30):
                self.assertEqual(lots_apart(rule, k), [()] * k)
                self.assertIsNone(few_outside(rule, k))

    def test_wide(self):
        for rule in RANKED_RULES:
            most = most_apart(rule)
            self.check_lots(rule, most, lots_apart(rule, most))
            self.assertIsNone(few_outside(rule, most))
            for k in (most + 1, most + 2, 17, 10 ** 30):
                self.assertIsNone(lots_apart(rule, k))
                self.check_few(rule, k, few_outside(rule, k))

    def test_examples(self):
        rule = Firsts(3, 2)
        self.assertEqual([most_apart(rule), few_outside(rule, 2)], [1, ()])
        self.assertEqual(most_apart(Firsts(16, 1)), 16)

    def test_errors(self):
        for call in (lots_apart, few_outside):
            for rule in (Firsts(3, 1), Firsts(3, 0), Rule(0)):
                for wrong in (0, *WRONG_NUMBERS):
                    self.assertEqual(raised(call, rule, wrong), ("BadNumber", {"name": "k"}))

    def test_new_lists(self):
        for rule in (Firsts(4, 2), Firsts(4, 0)):
            lots_apart(rule, 2).append(None)
            self.check_lots(rule, 2, lots_apart(rule, 2))


class CoversTest(unittest.TestCase):
    def check_cover(self, rule, found):
        self.assertIsInstance(found, list)
        self.assertTrue(all(part != () and rule.is_free(part) for part in found))
        self.assertEqual(sorted(x for part in found for x in part), list(range(rule.size)))

    def check_fullest(self, rule, many):
        full = fullest(rule)
        self.assertEqual(full, tuple(sorted(set(full))))
        self.assertEqual(rounded_up(len(full), rule.rank(full)), many)

    def test_every_small_rule(self):
        for rule, meaning in SMALL_RULES:
            if meaning.dead():
                self.assertIsNone(covers(rule))
                self.assertEqual(fullest(rule), meaning.dead()[:1])
            else:
                self.check_cover(rule, covers(rule))
                fewest = [k for k in range(7) if meaning.all in divisible_sets(meaning, k)][0]
                self.assertEqual(len(covers(rule)), fewest)
                if meaning.size:
                    self.check_fullest(rule, fewest)
                    ratios = [rounded_up(len(part), meaning.ranks[part]) for part in meaning.sets if part]
                    self.assertEqual(fewest, max(ratios))

    def test_no_things(self):
        for rule, meaning in SMALL_RULES:
            if meaning.size == 0:
                self.assertEqual([covers(rule), fullest(rule)], [[], None])

    def test_wide(self):
        covered = 0
        for rule in WIDE_RULES + DEEP_RULES:
            found = covers(rule)
            if rule.dead():
                self.assertEqual([found, fullest(rule)], [None, rule.dead()[:1]])
            else:
                covered += 1
                self.check_cover(rule, found)
                self.check_fullest(rule, len(found))
        self.assertGreater(covered, 10)

    def test_examples(self):
        net = Net(2, ((0, 1), (0, 1), (0, 1)))
        self.assertEqual([len(covers(net)), fullest(net)], [3, (0, 1, 2)])
        self.assertEqual([covers(Teams((0, 1), (1, 0))), fullest(Teams((0, 1), (1, 0)))], [None, (1,)])

    def test_new_lists(self):
        rule = Firsts(4, 2)
        covers(rule).append(None)
        self.check_cover(rule, covers(rule))


class LotPricesTest(unittest.TestCase):
    def worlds(self, size):
        chance = random.Random(12)
        return [
            tuple([3] * size), tuple([0, TOP][x % 2] for x in range(size)), tuple(range(size, 0, -1)),
            *[tuple(chance.randrange(9) for _ in range(size)) for _ in range(2)],
        ]

    def test_every_small_rule(self):
        for rule, meaning in SMALL_RULES:
            if meaning.full > 0:
                unions = unions_apart(meaning)
                for world in self.worlds(meaning.size):
                    told = [min(sum(world[x] for x in things) for things in row) for row in unions]
                    told = told + [None] * 3
                    for most in (0, 1, len(told) - 1):
                        self.assertEqual(lot_prices(rule, list(world), most), told[:most + 1])

    def test_each_further_lot_costs_at_least_as_much(self):
        for rule in RANKED_RULES:
            most = most_apart(rule)
            for world in self.worlds(rule.size):
                found = lot_prices(rule, world, most + 2)
                self.assertEqual(found[0], 0)
                self.assertEqual(found[most + 1:], [None, None])
                steps = [more - one for one, more in zip(found[:most], found[1:most + 1])]
                self.assertEqual(steps, sorted(steps))

    def test_example(self):
        self.assertEqual(lot_prices(Firsts(3, 1), (0, 5, 7), 4), [0, 0, 5, 12, None])

    def test_ends(self):
        self.assertEqual(lot_prices(Firsts(2, 1), (TOP, TOP), 3), [0, TOP, 2 * TOP, None])
        self.assertEqual(lot_prices(Firsts(2, 1), [0, 0], 2), [0, 0, 0])
        self.assertEqual(lot_prices(Firsts(2, 1), (4, 4), 0), [0])

    def test_rank_0(self):
        self.assertEqual(lot_prices(Rule(0), (), 2), [0, 0, 0])
        self.assertEqual(lot_prices(Firsts(2, 0), (5, 7), 3), [0, 0, 0, 0])
        self.assertEqual(lot_prices(Firsts(2, 0), (5, 7), 0), [0])

    def test_errors_in_order(self):
        for rule in (Firsts(2, 1), Firsts(2, 0)):
            for world, place in (
                ((1,), 1), ((1, 2, 3), 2), ((), 0), ((1, -1), 1), ((TOP + 1, 0), 0), ((0, None), 1), (("1", 2), 0),
            ):
                for most in (1, -1, None):
                    self.assertEqual(raised(lot_prices, rule, list(world), most), ("BadWorld", {"place": place}))
            for wrong in WRONG_NUMBERS:
                self.assertEqual(raised(lot_prices, rule, (1, 2), wrong), ("BadNumber", {"name": "most"}))

    def test_lists(self):
        world = [5, 1, 3]
        found = lot_prices(Firsts(3, 1), world, 2)
        self.assertEqual([found, world], [[0, 1, 4], [5, 1, 3]])
        found.append(None)
        self.assertEqual(lot_prices(Firsts(3, 1), world, 2), [0, 1, 4])


class OtherWordsTest(unittest.TestCase):
    def test_things_outside(self):
        # For k lots apart each set Z has at least k * (r - rank(Z)) things outside it.
        for rule, meaning in PLAIN_RULES:
            for k in (1, 2, 3):
                enough = all(
                    len(without_things(meaning.all, things)) >= k * (meaning.full - meaning.ranks[things])
                    for things in meaning.sets
                )
                self.assertEqual(lots_apart(rule, k) is not None, enough)
