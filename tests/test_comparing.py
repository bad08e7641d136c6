"""Of points 31, 33, 40 and 41: comparisons, rows and rings of them, orders in which all are true."""

import random
import unittest
from itertools import combinations, permutations, product

from tests.meaning import raised
from unseenprices.comparing import behind, forward, pairs_of, ring_in, row_between

# Entries that are no comparison of three things.
WRONG = (
    [0, 1], None, 5, "01", {0: 1, 1: 2}, (), (0,), (0, 1, 2), (1, 1), (0, 0), (0, 3), (3, 0), (-1, 0), (0, -1),
    (None, 1), (0, None), ("0", 1), (0, "1"), ((0,), 1), ((0, 1), (1, 2)),
)


def all_pairs(size):
    return [(x, y) for x in range(size) for y in range(size) if x != y]


def rows_of(size, pairs):
    """Return all rows that pass no thing twice but, in a ring, the first one; fewer things first, then ascending."""
    found = []
    for length in range(2, size + 2):
        for row in product(range(size), repeat=length):
            inner = row[:-1] if row[0] == row[-1] else row
            if len(set(inner)) == len(inner) and all(pair in pairs for pair in zip(row, row[1:])):
                found.append(row)
    return found


def orders_of(size, pairs):
    return [row for row in permutations(range(size)) if all(row.index(x) < row.index(y) for x, y in pairs)]


def some_lists():
    """Return pairs of a number of things and a list of comparisons."""
    chance = random.Random(13)
    found = [(size, []) for size in range(4)]
    for many in range(7):
        found += [(3, list(pairs)) for pairs in combinations(all_pairs(3), many)]
    for _ in range(150):
        size = chance.choice((2, 4, 4))
        found.append((size, [chance.choice(all_pairs(size)) for _ in range(chance.randrange(9))]))
    return found


LISTS = some_lists()


class RowsTest(unittest.TestCase):
    def test_against_all_rows(self):
        for size, pairs in LISTS:
            rows = rows_of(size, pairs)
            for one in range(size):
                for other in range(size):
                    fitting = [row for row in rows if row[0] == one and row[-1] == other]
                    found = row_between(size, pairs, one, other)
                    self.assertEqual(found, fitting[0] if fitting else None)
                ends = sorted({row[-1] for row in rows if row[0] == one})
                self.assertEqual(behind(size, tuple(pairs), one), tuple(ends))

    def test_rings(self):
        for size, pairs in LISTS:
            rings = [row for row in rows_of(size, pairs) if row[0] == row[-1]]
            found = ring_in(size, pairs)
            if rings:
                least = min(row[0] for row in rings)
                self.assertEqual(found, [row for row in rings if row[0] == least][0])
            else:
                self.assertIsNone(found)

    def test_the_least_tuple_of_the_shortest(self):
        pairs = [(0, 5), (0, 4), (5, 1), (4, 2), (4, 3), (3, 6), (2, 6), (1, 6), (6, 0), (0, 1)]
        self.assertEqual(row_between(7, pairs, 0, 6), (0, 1, 6))
        self.assertEqual(row_between(7, pairs[:-1], 0, 6), (0, 4, 2, 6))
        self.assertEqual(row_between(7, pairs, 4, 4), (4, 2, 6, 0, 4))
        self.assertEqual(ring_in(7, pairs), (0, 1, 6, 0))

    def test_the_least_thing_that_a_ring_holds(self):
        # From thing 0 a row leads into the ring, and the shorter ring has the greater things.
        pairs = ((0, 3), (3, 1), (1, 2), (2, 3), (4, 5), (5, 4))
        self.assertEqual(ring_in(6, pairs), (1, 2, 3, 1))
        self.assertEqual(behind(6, pairs, 0), (1, 2, 3))
        self.assertEqual(behind(6, pairs, 1), (1, 2, 3))

    def test_both_ways(self):
        pairs = [(1, 0), (0, 1)]
        self.assertEqual([row_between(2, pairs, 0, 1), row_between(2, pairs, 0, 0)], [(0, 1), (0, 1, 0)])
        self.assertEqual([ring_in(2, pairs), behind(2, pairs, 1), forward(2, pairs)], [(0, 1, 0), (0, 1), None])

    def test_a_comparison_with_itself_as_row(self):
        self.assertEqual([row_between(2, ((0, 1),), 0, 1), row_between(2, ((0, 1),), 1, 0)], [(0, 1), None])
        self.assertEqual([row_between(2, ((0, 1),), 0, 0), ring_in(2, ((0, 1),))], [None, None])


class OrdersTest(unittest.TestCase):
    def test_against_all_orders(self):
        for size, pairs in LISTS:
            orders = orders_of(size, pairs)
            self.assertEqual(forward(size, pairs), orders[0] if orders else None)
            self.assertEqual(forward(size, pairs) is None, ring_in(size, pairs) is not None)

    def test_examples(self):
        self.assertEqual([forward(0, ()), forward(1, []), forward(4, ())], [(), (0,), (0, 1, 2, 3)])
        self.assertEqual(forward(4, [(3, 0), (2, 3)]), (1, 2, 3, 0))
        self.assertEqual(forward(5, [(4, 0), (1, 3)]), (1, 2, 3, 4, 0))
        self.assertIsNone(forward(5, [(3, 4), (4, 3)]))


class PairsTest(unittest.TestCase):
    def test_each_once_in_ascending_order(self):
        for size, pairs in LISTS:
            self.assertEqual(pairs_of(size, pairs), tuple(sorted({*pairs})))
            self.assertEqual(pairs_of(size, tuple(pairs)), tuple(sorted({*pairs})))
        self.assertEqual(pairs_of(3, [(2, 1), (0, 1), (2, 1), (0, 2)]), ((0, 1), (0, 2), (2, 1)))
        self.assertEqual([pairs_of(0, ()), pairs_of(0, [])], [(), ()])

    def test_told_twice(self):
        for size, pairs in LISTS[::5]:
            twice = pairs + pairs[::-1]
            self.assertEqual(forward(size, twice), forward(size, pairs))
            self.assertEqual(ring_in(size, twice), ring_in(size, pairs))
            for thing in range(size):
                self.assertEqual(behind(size, twice, thing), behind(size, pairs, thing))

    def test_lists_stay_and_are_not_kept(self):
        for size, pairs in LISTS[::7]:
            given = list(pairs)
            found = pairs_of(size, given)
            ring_in(size, given)
            forward(size, given)
            for thing in range(size):
                behind(size, given, thing)
                row_between(size, given, thing, 0)
            self.assertEqual(given, pairs)
            given.append(None)
            self.assertEqual(found, tuple(sorted({*pairs})))


class SizesTest(unittest.TestCase):
    def test_sixteen_things_and_sixty_comparisons(self):
        chance = random.Random(14)
        for _ in range(20):
            row = chance.sample(range(16), 16)
            forth = [(row[x], row[y]) for x, y in [sorted(chance.sample(range(16), 2)) for _ in range(60)]]
            order = forward(16, forth)
            self.assertEqual(sorted(order), list(range(16)))
            self.assertTrue(all(order.index(x) < order.index(y) for x, y in forth))
            self.assertIsNone(ring_in(16, forth))
            for thing in range(16):
                for other in behind(16, forth, thing):
                    found = row_between(16, forth, thing, other)
                    self.assertTrue(all(pair in forth for pair in zip(found, found[1:])))
                    self.assertEqual((found[0], found[-1]), (thing, other))
            back = forth + [(order[15], order[0])]
            self.assertEqual(forward(16, back) is None, ring_in(16, back) is not None)

    def test_one_row_of_all(self):
        row = [(x, x + 1) for x in range(15)]
        self.assertEqual(row_between(16, row, 0, 15), tuple(range(16)))
        self.assertEqual(forward(16, [(y, x) for x, y in row]), tuple(range(15, -1, -1)))
        self.assertEqual(ring_in(16, [*row, (15, 0)]), (*range(16), 0))


class ErrorsTest(unittest.TestCase):
    def calls(self, pairs, thing=0, other=0):
        return [
            raised(pairs_of, 3, pairs), raised(ring_in, 3, pairs), raised(forward, 3, pairs),
            raised(row_between, 3, pairs, thing, other), raised(behind, 3, pairs, thing),
        ]

    def test_bad_pairs(self):
        for wrong in WRONG:
            self.assertEqual(self.calls((wrong,)), [("BadPair", {"place": 0})] * 5)
            self.assertEqual(self.calls([(0, 1), (0, 1), wrong, None]), [("BadPair", {"place": 2})] * 5)
            # BadPair comes ahead of BadThing.
            self.assertEqual(self.calls([(0, 1), wrong], 9, None), [("BadPair", {"place": 1})] * 5)
        self.assertEqual(raised(pairs_of, 0, ((0, 1),)), ("BadPair", {"place": 0}))
        self.assertEqual(raised(pairs_of, 1, ((0, 1),)), ("BadPair", {"place": 0}))

    def test_bad_things(self):
        for wrong in (3, -1, None, "0", (0,), [0]):
            told = ("BadThing", {"thing": wrong})
            for pairs in ((), [(0, 1), (1, 0)]):
                self.assertEqual(raised(row_between, 3, pairs, wrong, 99), told)
                self.assertEqual(raised(row_between, 3, pairs, wrong, 0), told)
                self.assertEqual(raised(row_between, 3, pairs, 0, wrong), told)
                self.assertEqual(raised(row_between, 3, pairs, 2, wrong), told)
                self.assertEqual(raised(behind, 3, pairs, wrong), told)
        self.assertEqual(raised(behind, 0, (), 0), ("BadThing", {"thing": 0}))
        self.assertEqual(raised(row_between, 0, (), 0, 0), ("BadThing", {"thing": 0}))
