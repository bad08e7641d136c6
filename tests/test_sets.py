"""Point 27's prices, the forms of sets and worlds, the signs of 0.4, and the turned sets of point 16."""

import inspect
import unittest
from itertools import islice

from tests.meaning import all_sets, raised
from unseenprices.sets import (
    TOP, both, common, minus, set_of, subsets, turned_rest, turned_set, world_of,
)


class FormsTest(unittest.TestCase):
    def test_top(self):
        self.assertEqual(TOP, 1000000)

    def test_sets_that_fit(self):
        for size in range(5):
            for things in all_sets(size):
                self.assertEqual(set_of(size, things), things)
                self.assertEqual(set_of(size, list(things)), things)
                self.assertIsInstance(set_of(size, list(things)), tuple)

    def test_sets_that_do_not_fit(self):
        for size, things, place in (
            (0, (0,), 0), (3, (3,), 0), (3, (0, 3), 1), (3, (-1, 0), 0), (3, (0, -1), 1), (3, (0, 0), 1),
            (3, (0, 1, 1), 2), (3, (1, 0), 1), (3, (0, 2, 1), 2), (3, (None,), 0), (3, ("0",), 0),
            (3, (0, None), 1), (3, (0, "1", -1), 1), (3, ((0,),), 0), (3, (0, 1, 2, 3), 3), (3, (0, 1, 2, 2), 3),
            (9, (4, 5, 5, 5), 2), (9, (4, 3, -1), 1), (9, (-2, -1), 0),
        ):
            told = ("BadSet", {"place": place})
            for call in (set_of, turned_set, turned_rest):
                self.assertEqual(raised(call, size, things), told)
                self.assertEqual(raised(call, size, list(things)), told)

    def test_worlds_that_fit(self):
        self.assertEqual(world_of(0, []), ())
        self.assertEqual(world_of(3, [5, 0, TOP]), (5, 0, TOP))
        self.assertEqual(world_of(3, (5, 5, 5)), (5, 5, 5))

    def test_worlds_that_do_not_fit(self):
        for size, prices, place in (
            (1, (), 0), (3, (1, 2), 2), (3, (1, -1), 1), (3, (1, 2, TOP + 1), 2), (3, (1, None, 3), 1),
            (3, ("1", 2, 3), 0), (3, (1, 2, 3, 4), 3), (3, (1, 2, 3, 4, 5), 3), (3, (1, 2, 3, None), 3),
            (3, (1, 2, -3, 4), 2), (0, (0,), 0), (0, (None,), 0), (2, ((1,), 1), 0),
        ):
            self.assertEqual(raised(world_of, size, prices), ("BadWorld", {"place": place}))
            self.assertEqual(raised(world_of, size, list(prices)), ("BadWorld", {"place": place}))

    def test_lists_stay_and_are_not_kept(self):
        things, prices = [0, 2], [3, 4, 5]
        held, world = set_of(3, things), world_of(3, prices)
        self.assertEqual([things, prices], [[0, 2], [3, 4, 5]])
        things[0], prices[0] = 1, 9
        self.assertEqual([held, world], [(0, 2), (3, 4, 5)])


class SignsTest(unittest.TestCase):
    def test_against_python_sets(self):
        for one in all_sets(4):
            for other in all_sets(4):
                given = [list(one), list(other)]
                for call, found in (
                    (both, {*one} | {*other}), (common, {*one} & {*other}), (minus, {*one} - {*other}),
                ):
                    self.assertEqual(call(one, other), tuple(sorted(found)))
                    self.assertEqual(call(*given), tuple(sorted(found)))
                self.assertEqual(given, [list(one), list(other)])

    def test_wide_numbers(self):
        self.assertEqual(both((3, 300), (7, 100)), (3, 7, 100, 300))
        self.assertEqual(minus((3, 7, 300), (7,)), (3, 300))


class TurnedTest(unittest.TestCase):
    def test_turned_set_and_rest(self):
        for size in range(6):
            for things in all_sets(size):
                turned = tuple(sorted(size - 1 - x for x in things))
                rest = tuple(sorted(size - 1 - x for x in range(size) if x not in things))
                self.assertEqual(turned_set(size, things), turned)
                self.assertEqual(turned_rest(size, list(things)), rest)

    def test_turning_twice(self):
        for things in all_sets(5):
            self.assertEqual(turned_set(5, turned_set(5, things)), things)
            self.assertEqual(turned_rest(5, turned_rest(5, things)), things)

    def test_edges(self):
        self.assertEqual([turned_set(0, ()), turned_rest(0, [])], [(), ()])
        self.assertEqual([turned_set(3, ()), turned_rest(3, ())], [(), (0, 1, 2)])
        self.assertEqual([turned_set(3, (0, 1, 2)), turned_rest(3, (0, 1, 2))], [(0, 1, 2), ()])


class SubsetsTest(unittest.TestCase):
    def test_all_in_order(self):
        for size in range(6):
            self.assertEqual(list(subsets(tuple(range(size)))), all_sets(size))

    def test_of_some_things(self):
        found = [(), (1,), (4,), (6,), (1, 4), (1, 6), (4, 6), (1, 4, 6)]
        self.assertEqual(list(subsets([1, 4, 6])), found)
        self.assertEqual(list(subsets(())), [()])

    def test_is_a_generator(self):
        self.assertTrue(inspect.isgenerator(subsets((0, 1))))
        things = [0, 1]
        self.assertEqual(len(list(subsets(things))), 4)
        self.assertEqual(things, [0, 1])

    def test_many_things(self):
        self.assertEqual(sum(1 for _ in subsets(tuple(range(16)))), 65536)
        self.assertEqual(list(islice(subsets(tuple(range(40))), 42))[-1], (0, 1))
