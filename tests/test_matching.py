"""Points 85 and 86: pairs that share no thing, pair covers, least and lean ones."""

import random
import unittest
from itertools import combinations

from tests.meaning import raised
from tests.refusals import NO_INTEGERS
from unseenprices.matching import greatest_row, least_cover, lean_covers

WRONG = (
    None, 5, "01", [0, 1], {0: 1, 1: 2}, (), (0,), (0, 1, 2), (7, 7), (-1, 0), (0, -1),
    *[(0, one) for one in NO_INTEGERS], *[(one, 0) for one in NO_INTEGERS],
)


def some_lists():
    """Return lists of pairs at random; the things have holes between them, and fronts may be above the backs."""
    chance = random.Random(95)
    found = [[], [(0, 1)], [(1, 0), (1, 0)], [(5, 2), (5, 3), (5, 9)], [(2, 5), (3, 5), (9, 5)]]
    for _ in range(120):
        things = chance.sample(range(20), 8)
        many = chance.randrange(1, 8)
        fronts, backs = things[:many], things[many:]
        found.append([(chance.choice(fronts), chance.choice(backs)) for _ in range(chance.randrange(9))])
    return found


LISTS = some_lists()


def things_of(pairs):
    return sorted({x for pair in pairs for x in pair})


def all_covers(pairs):
    """Return all pair covers among the things of the pairs, fewer things first."""
    things = things_of(pairs)
    found = []
    for many in range(len(things) + 1):
        found += [row for row in combinations(things, many) if all(set(pair) & set(row) for pair in pairs)]
    return found


class RowTest(unittest.TestCase):
    def check_row(self, pairs, row):
        self.assertIsInstance(row, list)
        self.assertLessEqual(set(row), set(pairs))
        self.assertEqual(len(things_of(row)), 2 * len(row))

    def test_against_all_choices(self):
        for pairs in LISTS:
            row = greatest_row(list(pairs))
            self.check_row(pairs, row)
            different = sorted(set(pairs))
            fitting = [
                many for many in range(len(different) + 1)
                if any(len(things_of(part)) == 2 * many for part in combinations(different, many))
            ]
            self.assertEqual(len(row), max(fitting))

    def test_examples(self):
        self.assertEqual([greatest_row(()), greatest_row([]), greatest_row([(3, 1), (3, 1)])], [[], [], [(3, 1)]])
        self.assertEqual(sorted(greatest_row(((0, 5), (0, 6), (1, 5)))), [(0, 6), (1, 5)])

    def test_many(self):
        pairs = [(x, y + 8) for x in range(8) for y in range(8)]
        self.check_row(pairs, greatest_row(pairs))
        self.assertEqual(len(greatest_row(pairs)), 8)
        chain = [(x, x + 8) for x in range(8)] + [(x, x + 9) for x in range(7)]
        self.assertEqual(len(greatest_row(chain)), 8)


class CoverTest(unittest.TestCase):
    def test_least(self):
        for pairs in LISTS:
            found = least_cover(tuple(pairs))
            told = all_covers(pairs)
            self.assertIn(found, told)
            self.assertEqual(len(found), len(told[0]))
            self.assertEqual(len(found), len(greatest_row(pairs)))

    def test_lean(self):
        for pairs in LISTS:
            told = all_covers(pairs)
            lean = [row for row in told if not any(set(one) < set(row) for one in told)]
            self.assertEqual(lean_covers(list(pairs)), sorted(lean))

    def test_examples(self):
        self.assertEqual([least_cover(()), lean_covers(()), lean_covers([])], [(), [()], [()]])
        self.assertEqual(lean_covers([(4, 2), (4, 2)]), [(2,), (4,)])
        self.assertIn(least_cover([(4, 2), (4, 2)]), [(2,), (4,)])
        self.assertEqual(least_cover([(5, 2), (5, 3), (5, 9)]), (5,))
        self.assertEqual(lean_covers([(5, 2), (5, 3), (5, 9)]), [(2, 3, 9), (5,)])
        self.assertEqual(lean_covers([(2, 5), (3, 5), (9, 5)]), [(2, 3, 9), (5,)])

    def test_eight_and_eight(self):
        whole = [(x, y + 8) for x in range(8) for y in range(8)]
        self.assertEqual(lean_covers(whole), [tuple(range(8)), tuple(range(8, 16))])
        self.assertIn(least_cover(whole), lean_covers(whole))
        single = [(x, x + 8) for x in range(8)]
        found = lean_covers(single)
        self.assertEqual([len(found), {len(row) for row in found}], [256, {8}])
        star = [(x, 15) for x in range(15)]
        self.assertEqual([lean_covers(star), least_cover(star)], [[tuple(range(15)), (15,)], (15,)])

    def test_new_lists(self):
        pairs = [(0, 1), (0, 2)]
        for call in (greatest_row, lean_covers):
            call(pairs).append(None)
            self.assertNotIn(None, call(pairs))
        self.assertEqual(pairs, [(0, 1), (0, 2)])


class ErrorsTest(unittest.TestCase):
    def test_bad_pairs(self):
        for call in (greatest_row, least_cover, lean_covers):
            for wrong in WRONG:
                self.assertEqual(raised(call, (wrong,)), ("BadPair", {"place": 0}))
                self.assertEqual(raised(call, [(0, 1), (0, 1), wrong, None]), ("BadPair", {"place": 2}))

    def test_in_front_and_behind_at_once(self):
        for call in (greatest_row, least_cover, lean_covers):
            self.assertEqual(raised(call, ((0, 1), (1, 2))), ("BadPair", {"place": 1}))
            self.assertEqual(raised(call, [(0, 1), (0, 2), (3, 0)]), ("BadPair", {"place": 2}))
            self.assertEqual(raised(call, [(0, 1), (1, 0), None]), ("BadPair", {"place": 1}))
            self.assertEqual(raised(call, [(5, 1), (3, 4), (4, 1), (1, 7)]), ("BadPair", {"place": 2}))
            self.assertEqual(raised(call, [(5, 1), (3, 4), (5, 3)]), ("BadPair", {"place": 2}))
