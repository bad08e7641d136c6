"""Points 21 and 22: dividing a set into free sets, and what is too full for it."""

import random
import unittest

from tests.kinds import DEEP_RULES, PLAIN_RULES, SMALL_RULES, WIDE_RULES
from tests.meaning import divisible_sets, raised
from unseenprices.counting import Firsts, Teams
from unseenprices.nets import Net
from unseenprices.parting import parted, too_full
from unseenprices.rules import Rule

WRONG_NUMBERS = (0, -1, -7, None, "1", (1,))


class MeaningTest(unittest.TestCase):
    def check_division(self, rule, things, k, found):
        self.assertIsInstance(found, list)
        self.assertEqual(len(found), k)
        self.assertTrue(all(rule.is_free(part) for part in found))
        self.assertEqual(sorted(x for part in found for x in part), list(things))

    def check_set(self, rule, things, k, fits):
        found, full = parted(rule, list(things), k), too_full(rule, list(things), k)
        if fits:
            self.check_division(rule, things, k, found)
            self.assertIsNone(full)
        else:
            self.assertIsNone(found)
            self.assertLessEqual(set(full), set(things))
            self.assertGreater(len(full), k * rule.rank(full))

    def test_every_set(self):
        for rule, meaning in SMALL_RULES:
            for k in (1, 2, 3):
                fitting = divisible_sets(meaning, k)
                for things in meaning.sets:
                    self.check_set(rule, things, k, things in fitting)

    def test_as_point_22_tells(self):
        for rule, meaning in PLAIN_RULES:
            for k in (1, 2, 4):
                for things in meaning.sets:
                    fits = all(len(part) <= k * meaning.ranks[part] for part in meaning.parts(things))
                    self.assertEqual(parted(rule, things, k) is not None, fits)
                    self.assertEqual(too_full(rule, things, k) is None, fits)

    def test_wide(self):
        chance = random.Random(9)
        for rule in WIDE_RULES + DEEP_RULES:
            for k in (1, 2, 3, 20):
                for part in (0.4, 0.7, 1.1):
                    things = tuple(x for x in range(rule.size) if chance.random() < part)
                    self.check_set(rule, things, k, parted(rule, things, k) is not None)

    def test_things_must_change_places(self):
        # Lines that are put where they fit first leave no place for the later ones.
        net = Net(4, ((0, 1), (1, 2), (0, 2), (0, 3), (1, 3), (2, 3)))
        self.check_division(net, tuple(range(6)), 2, parted(net, tuple(range(6)), 2))
        for shift in range(6):
            moved = Net(4, net.lines[shift:] + net.lines[:shift])
            self.check_division(moved, tuple(range(6)), 2, parted(moved, tuple(range(6)), 2))


class EdgesTest(unittest.TestCase):
    def test_example(self):
        net = Net(3, ((0, 1), (1, 2), (0, 2)))
        self.assertEqual([parted(net, (0, 2), 1), too_full(net, (0, 1, 2), 1), too_full(net, (0, 1, 2), 2)],
                         [[(0, 2)], (0, 1, 2), None])

    def test_the_empty_set(self):
        for rule in (Rule(0), Firsts(3, 0), Firsts(3, 2)):
            for k in (1, 2, 9):
                self.assertEqual(parted(rule, (), k), [()] * k)
                self.assertIsNone(too_full(rule, [], k))

    def test_more_sets_than_needed(self):
        rule = Firsts(3, 1)
        found = parted(rule, (0, 1, 2), 7)
        self.assertEqual([len(found), sorted(found)], [7, [(), (), (), (), (0,), (1,), (2,)]])
        self.assertIsNone(too_full(rule, (0, 1, 2), 10 ** 30))

    def test_dead_things(self):
        rule = Teams((0, 1, 1), (0, 1))
        for k in (1, 2, 3, 4, 50):
            self.assertIsNone(parted(rule, (0, 1, 2), k))
            self.assertIsNone(parted(rule, (0,), k))
            self.assertEqual(too_full(rule, (0,), k), (0,))
            full = too_full(rule, (0, 1, 2), k)
            self.assertGreater(len(full), k * rule.rank(full))

    def test_one_set(self):
        for rule, meaning in PLAIN_RULES:
            for things in meaning.sets:
                self.assertEqual(parted(rule, things, 1), [things] if things in meaning.free else None)


class ErrorsTest(unittest.TestCase):
    def test_errors_in_order(self):
        rule = Firsts(3, 1)
        for call in (parted, too_full):
            for things, place in (((3,), 0), ((0, 0), 1), ([1, 0], 1), ((0, None), 1), (("1",), 0), ([0, 1, -1], 2)):
                self.assertEqual(raised(call, rule, things, 1), ("BadSet", {"place": place}))
                self.assertEqual(raised(call, rule, things, 0), ("BadSet", {"place": place}))
            for wrong in WRONG_NUMBERS:
                self.assertEqual(raised(call, rule, (0, 1), wrong), ("BadNumber", {"name": "k"}))
                self.assertEqual(raised(call, rule, [], wrong), ("BadNumber", {"name": "k"}))

    def test_lists(self):
        rule, things = Firsts(4, 2), [0, 1, 3]
        found = parted(rule, things, 2)
        too_full(rule, things, 1)
        self.assertEqual(things, [0, 1, 3])
        found.append(None)
        self.assertEqual(len(parted(rule, things, 2)), 2)
