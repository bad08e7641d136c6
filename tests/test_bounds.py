"""Points 33 to 35: rows, rings and clashes, good notes, the least and the greatest agreeing world."""

import random
import unittest

from tests.knowing import agreeing, every_small, greatest_of, is_bad_row, least_of, rise_of, some_told
from tests.meaning import raised
from tests.refusals import NO_STRETCHES, as_both, no_pairs
from unseenprices.bounds import bounds
from unseenprices.comparing import behind, row_between
from unseenprices.sets import TOP


def rows_from(size, pairs, thing):
    """Return all rows from a thing if there is no ring."""
    found = []
    level = [(thing,)]
    while level:
        level = [(*row, y) for row in level for x, y in pairs if x == row[-1]]
        found += level
    return found


class BoundsTest(unittest.TestCase):
    def check(self, stretches, pairs):
        worlds = agreeing(stretches, pairs)
        if worlds:
            found = bounds(stretches, pairs)
            self.assertEqual(found, (least_of(worlds), greatest_of(worlds)))
            self.assertIn(found[0], worlds)
            self.assertIn(found[1], worlds)
            self.assertEqual(bounds(list(stretches), list(pairs)), found)
        else:
            name, told = raised(bounds, stretches, pairs)
            self.assertEqual((name, list(told)), ("NotGood", ["row"]))
            self.assertTrue(is_bad_row(told["row"], stretches, pairs))
        return bool(worlds)

    def test_every_small_one(self):
        found = [self.check(stretches, pairs) for stretches, pairs in every_small()]
        self.assertGreater(found.count(True), 200)
        self.assertGreater(found.count(False), 200)

    def test_some_with_four_and_five_things(self):
        chance = random.Random(32)
        found = []
        for size, many in ((4, 2), (4, 4), (4, 6), (5, 3), (5, 5)):
            found += [self.check(*some_told(chance, size, many)) for _ in range(40)]
        self.assertGreater(found.count(True), 40)
        self.assertGreater(found.count(False), 40)

    def test_a_row_that_just_clashes(self):
        pairs = ((3, 2), (2, 1), (1, 0))
        self.assertEqual(bounds(((0, 3),) * 4, pairs), ((3, 2, 1, 0), (3, 2, 1, 0)))
        self.assertEqual(raised(bounds, ((0, 2),) * 4, pairs), ("NotGood", {"row": (3, 2, 1, 0)}))
        self.assertEqual(raised(bounds, ((0, 2), (0, 9), (0, 9), (0, 9)), pairs), ("NotGood", {"row": (3, 2, 1, 0)}))
        self.assertEqual(raised(bounds, ((0, 9), (0, 9), (0, 1), (2, 9)), pairs), ("NotGood", {"row": (3, 2)}))
        # Upwards in number a row has no rise.
        self.assertEqual(bounds(((2, 2),) * 4, ((0, 1), (1, 2), (2, 3))), ((2,) * 4, (2,) * 4))
        self.assertEqual(raised(bounds, ((3, 3), (2, 2)), ((0, 1),)), ("NotGood", {"row": (0, 1)}))
        self.assertEqual(raised(bounds, ((2, 2), (2, 2)), ((1, 0),)), ("NotGood", {"row": (1, 0)}))

    def test_the_ends_of_the_prices(self):
        self.assertEqual(bounds(((0, TOP), (0, TOP)), ((1, 0),)), ((1, 0), (TOP, TOP - 1)))
        self.assertEqual(raised(bounds, ((0, TOP), (TOP, TOP)), ((1, 0),)), ("NotGood", {"row": (1, 0)}))
        self.assertEqual(raised(bounds, ((0, 0), (0, TOP)), ((1, 0),)), ("NotGood", {"row": (1, 0)}))
        self.assertEqual(bounds((), ()), ((), ()))
        self.assertEqual(bounds([(0, TOP)], []), ((0,), (TOP,)))
        self.assertEqual(bounds(((TOP, TOP), (0, 0)), ()), ((TOP, 0), (TOP, 0)))

    def test_rings(self):
        wide = ((0, TOP),) * 4
        self.assertEqual(raised(bounds, wide, ((2, 3), (3, 2))), ("NotGood", {"row": (2, 3, 2)}))
        name, told = raised(bounds, wide, ((0, 1), (1, 2), (2, 3), (3, 1)))
        self.assertTrue(name == "NotGood" and is_bad_row(told["row"], wide, ((1, 2), (2, 3), (3, 1))))
        # A comparison that is told twice is no ring.
        self.assertEqual(bounds(((0, 1), (0, 1)), [(0, 1), (0, 1)]), ((0, 0), (1, 1)))

    def test_examples(self):
        self.assertEqual(bounds(((0, 9), (3, 6), (0, 7)), ((0, 1), (2, 0))), ((1, 3, 0), (6, 6, 5)))
        told = raised(bounds, ((0, 1), (0, 9), (0, 9)), ((1, 0), (2, 1)))
        self.assertEqual(told, ("NotGood", {"row": (2, 1, 0)}))


class SizesTest(unittest.TestCase):
    def told(self, chance):
        row = chance.sample(range(16), 16)
        pairs = [(row[x], row[y]) for x, y in [sorted(chance.sample(range(16), 2)) for _ in range(60)]]
        return [(chance.randrange(12), 12 + chance.randrange(30)) for _ in range(16)], pairs

    def test_sixteen_things_as_point_35_tells(self):
        chance = random.Random(33)
        good = 0
        for _ in range(12):
            stretches, pairs = self.told(chance)
            pairs = pairs[:chance.choice((12, 25, 60))]
            problem = raised(bounds, stretches, pairs)
            if problem is None:
                good += 1
                self.check_wide(stretches, pairs)
            else:
                self.assertTrue(is_bad_row(problem[1]["row"], stretches, pairs))
        self.assertGreater(good, 4)

    def check_wide(self, stretches, pairs):
        lows, highs = bounds(stretches, pairs)
        for x, y in pairs:
            self.assertLess((lows[x], x), (lows[y], y))
            self.assertLess((highs[x], x), (highs[y], y))
        for x, (low, high) in enumerate(stretches):
            self.assertTrue(low <= lows[x] <= highs[x] <= high)
        # Each price is a told bound, or there is a neighbour that forces it.
        for x, (low, high) in enumerate(stretches):
            ahead = [lows[y] + rise_of((y, x)) for y, z in pairs if z == x]
            after = [highs[z] - rise_of((x, z)) for y, z in pairs if y == x]
            self.assertEqual(lows[x], max([low, *ahead]))
            self.assertEqual(highs[x], min([high, *after]))

    def test_all_rows_of_few_comparisons(self):
        chance = random.Random(34)
        for _ in range(10):
            stretches, pairs = self.told(chance)
            pairs = sorted(set(pairs[:14]))
            if raised(bounds, stretches, pairs) is None:
                lows = bounds(stretches, pairs)[0]
                rows = [row for x in range(16) for row in rows_from(16, pairs, x)]
                for x in range(16):
                    sums = [stretches[row[0]][0] + rise_of(row) for row in rows if row[-1] == x]
                    self.assertEqual(lows[x], max([stretches[x][0], *sums]))

    def test_a_row_of_all(self):
        pairs = [(x + 1, x) for x in range(15)]
        self.assertEqual(bounds([(0, TOP)] * 16, pairs)[0], tuple(range(15, -1, -1)))
        self.assertEqual(raised(bounds, [(0, 14)] * 16, pairs), ("NotGood", {"row": tuple(range(15, -1, -1))}))
        self.assertEqual(behind(16, pairs, 15), tuple(range(15)))
        self.assertEqual(row_between(16, pairs, 15, 0), tuple(range(15, -1, -1)))


class ErrorsTest(unittest.TestCase):
    def test_stretches_come_first(self):
        for wrong in NO_STRETCHES:
            for place in range(3):
                row = [(0, 5), (1, 1), (2, 9)]
                row[place] = wrong
                for given in as_both(tuple(row)):
                    for pairs in ((), ((0, 1), (1, 0)), (None,)):
                        self.assertEqual(raised(bounds, given, pairs), ("BadStretch", {"thing": place}))
        self.assertEqual(raised(bounds, (None, None, (0, 1)), ()), ("BadStretch", {"thing": 0}))

    def test_then_pairs_then_the_row(self):
        row = ((0, 5), (5, 9), (2, 9))
        for wrong in no_pairs(3):
            self.assertEqual(raised(bounds, row, (wrong,)), ("BadPair", {"place": 0}))
            self.assertEqual(raised(bounds, row, [(0, 1), (1, 0), wrong, None]), ("BadPair", {"place": 2}))
        self.assertEqual(raised(bounds, (), ((0, 1),)), ("BadPair", {"place": 0}))
        self.assertEqual(raised(bounds, row, [(0, 1), (1, 0)])[0], "NotGood")

    def test_lists_stay_and_are_not_kept(self):
        row, pairs = [(0, 5), (0, 9)], [(1, 0), (1, 0)]
        found = bounds(row, pairs)
        self.assertEqual([row, pairs], [[(0, 5), (0, 9)], [(1, 0), (1, 0)]])
        row[0] = (7, 7)
        pairs.append(None)
        self.assertEqual(found, ((1, 0), (5, 4)))
