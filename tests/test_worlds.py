"""Points 27, 32, 36, 40, 42 and 44: agreeing worlds, climbs, turned worlds, orders and their worlds, extreme worlds."""

import random
import unittest
from itertools import permutations

from tests.knowing import SMALL_KNOWN, greatest_of, is_true, key, known_for, least_of, plain_for
from tests.meaning import all_sets, raised
from tests.refusals import no_orders, no_worlds_alone, refuses, refuses_sets, refuses_things, refuses_worlds
from unseenprices.notes import Notes
from unseenprices.sets import TOP
from unseenprices.worlds import (
    before, climb, count_worlds, extreme, order_of, turned_world, world_along, worlds,
)

COMPARED = Notes(((0, 1), (0, 1)), pairs=((0, 1),))


def first_of(notes):
    """Return the first world that agrees; raises what worlds raises."""
    for world in worlds(notes):
        return world
    return None


class WorldsTest(unittest.TestCase):
    def test_every_small_one(self):
        for known in SMALL_KNOWN:
            self.assertEqual(list(worlds(known.notes)), known.worlds)

    def test_five_things(self):
        chance = random.Random(41)
        for _ in range(8):
            for known in (plain_for(chance, 5), known_for(chance, 5)):
                self.assertEqual(list(worlds(known.notes)), known.worlds)

    def test_no_things_and_one(self):
        self.assertEqual(list(worlds(Notes(()))), [()])
        self.assertEqual(list(worlds(Notes(((TOP, TOP),)))), [(TOP,)])
        self.assertEqual(list(worlds(Notes(((0, 2),)))), [(0,), (1,), (2,)])

    def test_the_product_5000_and_more(self):
        fitting = Notes(((1, 5000), (7, 7)))
        self.assertEqual(len(list(worlds(fitting))), 5000)
        self.assertEqual(raised(first_of, Notes(((0, 5000), (7, 7)))), ("TooMany", {"number": 5001}))
        self.assertEqual(len(list(worlds(Notes(((0, 49), (0, 99)))))), 5000)
        self.assertEqual(raised(first_of, Notes(((0, 49), (0, 100)))), ("TooMany", {"number": 5050}))
        self.assertEqual(raised(first_of, Notes.unknown(16)), ("TooMany", {"number": (TOP + 1) ** 16}))

    def test_the_product_is_that_of_lows_and_highs(self):
        # Told are 71 * 71 choices, but what the comparison leaves is 70 * 70.
        notes = Notes(((0, 70), (0, 70)), pairs=((1, 0),))
        self.assertEqual(len(list(worlds(notes))), 70 * 71 // 2)
        # Few worlds agree, but the product is too great.
        notes = Notes(((0, 71), (0, 71)), pairs=((1, 0),))
        self.assertEqual(raised(first_of, notes), ("TooMany", {"number": 71 * 71}))

    def test_a_generator_raises_ahead_of_the_first_world(self):
        found = worlds(Notes.unknown(2))
        with self.assertRaises(ValueError):
            next(found)
        self.assertEqual(next(worlds(Notes(((3, 4),)))), (3,))

    def test_count(self):
        for known in SMALL_KNOWN:
            if known.pairs:
                self.assertEqual(raised(count_worlds, known.notes), ("NotPlain", {}))
            else:
                self.assertEqual(count_worlds(known.notes), len(known.worlds))
        self.assertEqual(count_worlds(Notes.unknown(16)), (TOP + 1) ** 16)
        self.assertEqual(count_worlds(Notes(())), 1)


class ClimbTest(unittest.TestCase):
    def check(self, notes, first, last):
        found = climb(notes, list(first), list(last))
        self.assertIsInstance(found, list)
        self.assertEqual([found[0], found[-1]], [first, last])
        self.assertEqual(len(found), sum(last) - sum(first) + 1)
        for world, more in zip(found, found[1:]):
            self.assertTrue(notes.agrees(more))
            fitting = [
                grown for grown in (
                    (*world[:x], price + 1, *world[x + 1:]) for x, price in enumerate(world) if price < last[x]
                ) if is_true(grown, notes.pairs)
            ]
            self.assertEqual(more, fitting[0])

    def test_every_small_one(self):
        chance = random.Random(42)
        for known in SMALL_KNOWN:
            self.check(known.notes, known.notes.lows, known.notes.highs)
            for _ in range(6):
                pair = [chance.choice(known.worlds), chance.choice(known.worlds)]
                self.check(known.notes, least_of(pair), greatest_of(pair))

    def test_examples(self):
        found = climb(Notes(((0, 2), (0, 2)), pairs=((1, 0),)), (1, 0), (2, 1))
        self.assertEqual(found, [(1, 0), (2, 0), (2, 1)])
        self.assertEqual(climb(Notes(((0, 1), (0, 1))), (0, 0), (1, 1)), [(0, 0), (1, 0), (1, 1)])
        # With equal prices the lesser thing is before the other one.
        self.assertEqual(climb(COMPARED, (0, 0), (1, 1)), [(0, 0), (0, 1), (1, 1)])
        self.assertEqual(climb(COMPARED, (0, 1), (0, 1)), [(0, 1)])
        self.assertEqual(climb(Notes(()), (), ()), [()])

    def test_5000_worlds_and_more(self):
        notes = Notes(((0, TOP), (3, TOP)))
        found = climb(notes, (0, 3), (4000, 1002))
        self.assertEqual([len(found), found[-1]], [5000, (4000, 1002)])
        self.assertEqual(raised(climb, notes, (0, 3), (4000, 1003)), ("TooMany", {"number": 5001}))
        self.assertEqual(raised(climb, notes, (0, 3), (TOP, TOP)), ("TooMany", {"number": 2 * TOP - 2}))

    def test_sixteen_things_with_sixty_comparisons(self):
        chance = random.Random(43)
        row = chance.sample(range(16), 16)
        pairs = [(row[x], row[y]) for x, y in [sorted(chance.sample(range(16), 2)) for _ in range(60)]]
        notes = Notes([(0, 900)] * 16, pairs=pairs)
        last = tuple(price + 312 for price in notes.lows)
        self.check(notes, notes.lows, last)

    def test_errors_in_order(self):
        notes = Notes(((0, 9), (0, 9), (0, 9)), pairs=((0, 1),))
        refuses_worlds(self, 3, lambda world: climb(notes, world, None))
        refuses_worlds(self, 3, lambda world: climb(notes, (0, 0, 0), world))
        self.assertEqual(raised(climb, notes, (0, 0, 10), None), ("NotAgreeing", {"thing": 2}))
        self.assertEqual(raised(climb, notes, (1, 0, 0), (0, 0, 11)), ("NotAgreeing", {"thing": 0}))
        self.assertEqual(raised(climb, notes, (0, 0, 5), (1, 0, 4)), ("NotAgreeing", {"thing": 0}))
        self.assertEqual(raised(climb, notes, (0, 4, 5), (0, 3, 4)), ("BadWorld", {"place": 1}))
        self.assertEqual(raised(climb, notes, (0, 0, 5), (9, 9, 4)), ("BadWorld", {"place": 2}))
        wide = Notes.unknown(2)
        self.assertEqual(raised(climb, wide, (0, 1), (TOP, 0)), ("BadWorld", {"place": 1}))

    def test_new_lists(self):
        first, last = [0, 0], [1, 1]
        climb(COMPARED, first, last).append(None)
        self.assertEqual(climb(COMPARED, first, last), [(0, 0), (0, 1), (1, 1)])
        self.assertEqual([first, last], [[0, 0], [1, 1]])


class TurnedWorldTest(unittest.TestCase):
    def test_turned(self):
        self.assertEqual(turned_world([0, 5, TOP]), (0, TOP - 5, TOP))
        self.assertEqual([turned_world(()), turned_world((1,))], [(), (TOP - 1,)])
        for known in SMALL_KNOWN:
            last = known.size - 1
            for world in known.worlds[::7]:
                turned = turned_world(world)
                self.assertEqual(turned, tuple(TOP - world[last - x] for x in range(known.size)))
                self.assertEqual(turned_world(list(turned)), world)
                for x in range(known.size):
                    self.assertEqual(before(turned, last - x), tuple(
                        last - y for y in range(last, -1, -1) if key(world, x) < key(world, y)
                    ))

    def test_agrees_with_the_turned_notes(self):
        for known in SMALL_KNOWN:
            turned = {turned_world(world) for world in known.worlds}
            if len(known.worlds) < 300:
                self.assertEqual({*worlds(~known.notes)}, turned)

    def test_errors(self):
        refuses(self, "BadWorld", "place", no_worlds_alone(), turned_world)


class OrdersTest(unittest.TestCase):
    def test_before(self):
        self.assertEqual([before((3, 1, 3, 2), x) for x in range(4)], [(1, 3), (), (0, 1, 3), (1,)])
        for known in SMALL_KNOWN:
            for world in known.worlds[::5]:
                for x in range(known.size):
                    ahead = tuple(y for y in range(known.size) if key(world, y) < key(world, x))
                    self.assertEqual(before(list(world), x), ahead)

    def test_order_of(self):
        self.assertEqual(order_of([3, 1, 3, 2]), (1, 3, 0, 2))
        self.assertEqual([order_of(()), order_of((7,)), order_of((TOP, 0))], [(), (0,), (1, 0)])
        for known in SMALL_KNOWN:
            for world in known.worlds[::5]:
                order = order_of(world)
                self.assertEqual(sorted(order), list(range(known.size)))
                for place, x in enumerate(order):
                    self.assertEqual(before(world, x), tuple(sorted(order[:place])))

    def test_world_along(self):
        self.assertEqual([world_along(()), world_along([0]), world_along((2, 0, 1))], [(), (0,), (1, 2, 0)])
        for size in range(5):
            for order in permutations(range(size)):
                world = world_along(list(order))
                self.assertEqual([world[x] for x in order], list(range(size)))
                self.assertEqual(order_of(world), order)
                self.assertTrue(Notes.along(order).agrees(world))

    def test_errors(self):
        wrong = no_worlds_alone()
        refuses(self, "BadWorld", "place", wrong, order_of)
        refuses(self, "BadWorld", "place", wrong, lambda world: before(world, None))
        for size in range(4):
            refuses_things(self, size, lambda thing: before((1,) * size, thing))
            rows = [(row, place) for row, place in no_orders(size) if len(row) == size]
            refuses(self, "BadOrder", "place", rows, world_along)
        self.assertEqual(raised(world_along, (0, 1, 3, 2, 2)), ("BadOrder", {"place": 4}))
        self.assertEqual(raised(world_along, (0, 2)), ("BadOrder", {"place": 1}))


class ExtremeTest(unittest.TestCase):
    def test_every_plain_one(self):
        for known in SMALL_KNOWN:
            if not known.pairs:
                for things in all_sets(known.size):
                    told = tuple(b if x in things else a for x, (a, b) in enumerate(known.stretches))
                    self.assertEqual(extreme(known.notes, list(things)), told)
                    self.assertIn(told, known.worlds)

    def test_errors_in_order(self):
        refuses_sets(self, 3, lambda things: extreme(Notes.unknown(3), things))
        for things in ((), (0,), (9,), None):
            self.assertEqual(raised(extreme, COMPARED, things), ("NotPlain", {}))
