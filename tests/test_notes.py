"""Points 31 to 41: notes, what is surely before what, latest and earliest worlds, lesser and greater worlds."""

import random
import unittest
from itertools import combinations, product

from tests.knowing import (
    SMALL_KNOWN, all_pairs, all_stretches, greatest_of, is_true, key, known_for, later_of, least_of, plain_for,
)
from tests.meaning import raised
from tests.refusals import NO_COUNTS, NO_STRETCHES, as_both, no_orders, no_pairs, refuses_worlds
from unseenprices.notes import Notes, agreeing_world
from unseenprices.sets import TOP

EXAMPLE = Notes(((1, 4), (2, 2), (3, 6), (0, 5), (4, 4)))


def told_twice(pairs):
    return [*pairs[::-1], *pairs]


class AttributesTest(unittest.TestCase):
    def test_every_small_one(self):
        for known in SMALL_KNOWN:
            for notes in (known.notes, Notes(list(known.stretches), pairs=told_twice(known.pairs))):
                self.assertEqual([notes.size, len(notes)], [known.size] * 2)
                self.assertEqual(notes.stretches, known.stretches)
                self.assertEqual(notes.pairs, tuple(sorted(set(known.pairs))))
                self.assertEqual(notes.lows, least_of(known.worlds))
                self.assertEqual(notes.highs, greatest_of(known.worlds))
                self.assertIs(notes.plain, not known.pairs)
                self.assertEqual(notes.TOP, 1000000)

    def test_kinds(self):
        notes = Notes([(0, 5), (0, 5)], pairs=[(1, 0)])
        for value in (notes.stretches, notes.pairs, notes.lows, notes.highs):
            self.assertIsInstance(value, tuple)
        self.assertEqual(Notes.TOP, 1000000)
        self.assertEqual([Notes(()).plain, len(Notes([])), Notes(()).lows, Notes(()).highs], [True, 0, (), ()])

    def test_told_bounds_stay_as_they_were(self):
        notes = Notes(((0, 9), (3, 6), (0, 7)), pairs=((0, 1), (2, 0)))
        self.assertEqual(notes.stretches, ((0, 9), (3, 6), (0, 7)))
        self.assertEqual([notes.lows, notes.highs], [(1, 3, 0), (6, 6, 5)])

    def test_lists_stay_and_are_not_kept(self):
        row, pairs = [(0, 5), (0, 9)], [(1, 0), (1, 0)]
        notes = Notes(row, pairs=pairs)
        self.assertEqual([row, pairs], [[(0, 5), (0, 9)], [(1, 0), (1, 0)]])
        row[0] = None
        pairs.append(None)
        self.assertEqual([notes.stretches, notes.pairs], [((0, 5), (0, 9)), ((1, 0),)])
        self.assertEqual(notes.narrow(0, 1, 2).stretches, ((1, 2), (0, 9)))

    def test_errors_as_bounds(self):
        for wrong in NO_STRETCHES:
            told = ("BadStretch", {"thing": 1})
            self.assertEqual(raised(lambda: Notes([(0, 1), wrong, None], pairs=[None])), told)
        for wrong in no_pairs(3):
            told = ("BadPair", {"place": 1})
            self.assertEqual(raised(lambda: Notes([(0, 1)] * 3, pairs=[(0, 1), wrong, None])), told)
        self.assertEqual(raised(lambda: Notes(((0, 1),) * 3, pairs=((1, 0), (2, 1)))), ("NotGood", {"row": (2, 1, 0)}))
        self.assertEqual(raised(lambda: Notes(((0, 1),) * 2, pairs=((1, 0), (0, 1)))), ("NotGood", {"row": (0, 1, 0)}))


class EqualTest(unittest.TestCase):
    def test_equal_exactly_if_told_the_same(self):
        for one in SMALL_KNOWN:
            for other in SMALL_KNOWN:
                same = one.stretches == other.stretches and set(one.pairs) == set(other.pairs)
                self.assertIs(one.notes == other.notes, same)
                self.assertIs(one.notes != other.notes, not same)

    def test_the_same_worlds_are_not_enough(self):
        one = Notes(((0, 1), (0, 1)), pairs=((1, 0),))
        other = Notes(((1, 1), (0, 0)), pairs=((1, 0),))
        self.assertEqual([one.lows, one.highs], [other.lows, other.highs])
        self.assertFalse(one == other)
        self.assertFalse(Notes(((0, 0), (1, 1))) == Notes(((0, 0), (1, 1)), pairs=((0, 1),)))
        self.assertTrue(one == Notes([(0, 1), (0, 1)], pairs=[(1, 0), (1, 0)]))

    def test_what_is_no_notes(self):
        notes = Notes(((0, 1),))
        for other in (None, 0, "", (), ((0, 1),), [(0, 1)], {}, notes.stretches, Notes):
            self.assertIs(notes == other, False)
            self.assertIs(other == notes, False)
            self.assertIs(notes != other, True)
        self.assertIs(Notes(()) == Notes(()), True)


class UnknownTest(unittest.TestCase):
    def test_unknown(self):
        for size in range(5):
            notes = Notes.unknown(size)
            self.assertEqual(notes, Notes(((0, TOP),) * size))
            self.assertIs(notes.plain, True)
        notes = Notes.unknown(3, pairs=[(2, 0), (0, 1), (2, 0)])
        self.assertEqual([notes.stretches, notes.pairs], [((0, TOP),) * 3, ((0, 1), (2, 0))])
        self.assertEqual([notes.lows, notes.highs], [(1, 1, 0), (TOP, TOP, TOP - 1)])
        self.assertEqual(Notes.unknown(16).lows, (0,) * 16)

    def test_unknown_errors_in_order(self):
        for wrong in NO_COUNTS:
            for pairs in ((), (None,), ((0, 1), (1, 0))):
                self.assertEqual(raised(lambda: Notes.unknown(wrong, pairs=pairs)), ("BadNumber", {"name": "size"}))
        for wrong in no_pairs(2):
            told = ("BadPair", {"place": 2})
            self.assertEqual(raised(lambda: Notes.unknown(2, pairs=[(0, 1), (1, 0), wrong, None])), told)
        self.assertEqual(raised(lambda: Notes.unknown(2, pairs=((0, 1), (1, 0)))), ("NotGood", {"row": (0, 1, 0)}))
        self.assertEqual(raised(lambda: Notes.unknown(0, pairs=((0, 1),))), ("BadPair", {"place": 0}))

    def test_good_exactly_if_there_is_no_ring(self):
        for many in range(5):
            for pairs in combinations(all_pairs(3), many):
                ring = any(thing in later_of(3, pairs, thing) for thing in range(3))
                self.assertEqual(raised(lambda: Notes.unknown(3, pairs=pairs)) is not None, ring)
                if not ring:
                    notes = Notes.unknown(3, pairs=pairs)
                    for x, y in all_pairs(3):
                        self.assertIs(notes.sure_before(x, y), y in later_of(3, pairs, x))

    def test_along(self):
        self.assertEqual(Notes.along((2, 0, 1)), Notes.unknown(3, pairs=((0, 1), (2, 0))))
        self.assertEqual(Notes.along([1, 0]), Notes.unknown(2, pairs=((1, 0),)))
        self.assertEqual([Notes.along(()), Notes.along([0])], [Notes.unknown(0), Notes.unknown(1)])
        order = tuple(range(15, -1, -1))
        notes = Notes.along(order)
        self.assertEqual([notes.lows, notes.highs[0]], [order, TOP])
        self.assertTrue(notes.agrees(order))

    def test_along_refuses_what_is_no_order(self):
        for size in range(5):
            for row, place in no_orders(size):
                if len(row) == size:
                    self.assertEqual(raised(Notes.along, row), ("BadOrder", {"place": place}))
        for row, place in (((0, 2), 1), ((1,), 0), ((0, 0), 1), ((0, 1, 1), 2), ((0, 1, 3, 2, 2), 4), ((None,), 0)):
            for given in as_both(row):
                self.assertEqual(raised(Notes.along, given), ("BadOrder", {"place": place}))


class SeenTest(unittest.TestCase):
    def test_every_small_one(self):
        for known in SMALL_KNOWN:
            fixed = [x for x in range(known.size) if len({world[x] for world in known.worlds}) == 1]
            self.assertEqual(known.notes.unseen(), tuple(x for x in range(known.size) if x not in fixed))
            for x in range(known.size):
                self.assertIs(known.notes.seen(x), x in fixed)

    def test_seen_though_the_told_stretch_is_wide(self):
        notes = Notes(((0, 1), (0, 1), (0, 1)), pairs=((1, 0),))
        self.assertEqual([notes.seen(0), notes.seen(1), notes.seen(2), notes.unseen()], [True, True, False, (2,)])


class SurelyBeforeTest(unittest.TestCase):
    def test_every_small_one(self):
        for known in SMALL_KNOWN:
            things = range(known.size)
            for x in things:
                for y in things:
                    self.assertIs(known.notes.sure_before(x, y), known.before_in_all(x, y))
                first = tuple(y for y in things if known.before_in_all(y, x))
                maybe = tuple(y for y in things if y != x and not known.before_in_all(x, y))
                self.assertEqual(known.notes.must_precede(x), first)
                self.assertEqual(known.notes.may_precede(x), maybe)

    def test_as_point_37_words_it(self):
        for known in SMALL_KNOWN:
            notes = known.notes
            for x, y in all_pairs(known.size):
                row = y in later_of(known.size, known.pairs, x)
                self.assertIs(notes.sure_before(x, y), row or (notes.highs[x], x) < (notes.lows[y], y))
                self.assertFalse(notes.sure_before(x, y) and notes.sure_before(y, x))

    def test_equal_prices_go_by_number(self):
        notes = Notes(((0, 4), (4, 9), (4, 4)))
        sure = [notes.sure_before(0, 1), notes.sure_before(0, 2), notes.sure_before(2, 1)]
        self.assertEqual(sure, [True, True, False])
        self.assertEqual([notes.must_precede(1), notes.may_precede(0), notes.may_precede(1)], [(0,), (), (0, 2)])
        self.assertEqual([notes.sure_before(1, 1), Notes(((0, 0),)).sure_before(0, 0)], [False, False])

    def test_example(self):
        found = [EXAMPLE.must_precede(2), EXAMPLE.may_precede(0), EXAMPLE.latest(0), EXAMPLE.earliest(2)]
        self.assertEqual(found, [(1,), (1, 2, 3), (4, 2, 3, 0, 4), (4, 2, 3, 5, 4)])


class LatestEarliestTest(unittest.TestCase):
    def test_every_small_one(self):
        for known in SMALL_KNOWN:
            for x in range(known.size):
                late = [world for world in known.worlds if world[x] == known.notes.highs[x]]
                soon = [world for world in known.worlds if world[x] == known.notes.lows[x]]
                self.assertEqual(known.notes.latest(x), least_of(late))
                self.assertIn(least_of(late), late)
                self.assertEqual(known.notes.earliest(x), greatest_of(soon))
                self.assertIn(greatest_of(soon), soon)

    def test_as_point_38_goes_on(self):
        for known in SMALL_KNOWN:
            notes = known.notes
            for x in range(known.size):
                late, soon = notes.latest(x), notes.earliest(x)
                for y in range(known.size):
                    if y != x and y not in later_of(known.size, known.pairs, x):
                        self.assertEqual(late[y], notes.lows[y])
                    if y != x and x not in later_of(known.size, known.pairs, y):
                        self.assertEqual(soon[y], notes.highs[y])
                ahead = [tuple(y for y in range(known.size) if key(world, y) < key(world, x)) for world in (late, soon)]
                self.assertEqual(ahead, [notes.may_precede(x), notes.must_precede(x)])


class AgreesTest(unittest.TestCase):
    def test_every_small_one(self):
        for known in SMALL_KNOWN:
            wider = [range(max(0, low - 1), min(TOP, high + 1) + 1) for low, high in known.stretches]
            for world in list(product(*wider))[::3 if known.size == 4 else 1]:
                agrees = world in known.worlds
                self.assertIs(known.notes.agrees(list(world)), agrees)
                if agrees:
                    self.assertEqual(agreeing_world(known.notes, list(world)), world)
                else:
                    told = ("NotAgreeing", {"thing": self.least_wrong(known, world)})
                    self.assertEqual(raised(agreeing_world, known.notes, world), told)

    def least_wrong(self, known, world):
        outside = [x for x, (low, high) in enumerate(known.stretches) if not low <= world[x] <= high]
        return outside[0] if outside else min(x for x, y in known.pairs if key(world, x) > key(world, y))

    def test_the_told_stretches_count(self):
        # The price 0 is in the told stretch of thing 0, but thing 1 would have to cost less.
        notes = Notes(((0, 5), (0, 5), (0, 5)), pairs=((1, 0), (2, 1)))
        self.assertEqual(raised(agreeing_world, notes, (0, 0, 0)), ("NotAgreeing", {"thing": 1}))
        self.assertEqual(raised(agreeing_world, notes, (0, 0, 6)), ("NotAgreeing", {"thing": 2}))
        self.assertEqual(raised(agreeing_world, notes, (2, 1, 1)), ("NotAgreeing", {"thing": 2}))
        self.assertEqual(agreeing_world(notes, [2, 1, 0]), (2, 1, 0))

    def test_bad_worlds(self):
        for notes in (Notes(((0, 5),) * 3), Notes(((5, 5),) * 3, pairs=((0, 1),)), Notes(())):
            refuses_worlds(self, notes.size, notes.agrees)
            refuses_worlds(self, notes.size, lambda world: agreeing_world(notes, world))

    def test_lists_stay(self):
        world = [1, 2]
        self.assertEqual([EXAMPLE.agrees([1, 2, 3, 0, 4]), agreeing_world(Notes(((0, 5),) * 2), world)], [True, (1, 2)])
        self.assertEqual(world, [1, 2])


class LatticeTest(unittest.TestCase):
    def test_lesser_and_greater_prices_of_two_worlds(self):
        chance = random.Random(36)
        for known in SMALL_KNOWN:
            for _ in range(20):
                pair = [chance.choice(known.worlds), chance.choice(known.worlds)]
                self.assertTrue(known.notes.agrees(least_of(pair)))
                self.assertTrue(known.notes.agrees(greatest_of(pair)))


class SizesTest(unittest.TestCase):
    def test_sixteen_things_and_sixty_comparisons(self):
        chance = random.Random(37)
        for _ in range(6):
            row = chance.sample(range(16), 16)
            pairs = [(row[x], row[y]) for x, y in [sorted(chance.sample(range(16), 2)) for _ in range(60)]]
            notes = Notes([(chance.randrange(20), 30 + chance.randrange(40)) for _ in range(16)], pairs=pairs)
            for x in range(16):
                self.check_thing(notes, x)
            self.assertEqual(~~notes, notes)
            self.assertEqual((notes + notes).lows, notes.lows * 2)

    def check_thing(self, notes, x):
        for world, price, ahead in (
            (notes.latest(x), notes.highs[x], notes.may_precede(x)),
            (notes.earliest(x), notes.lows[x], notes.must_precede(x)),
        ):
            self.assertTrue(is_true(world, notes.pairs))
            self.assertTrue(notes.agrees(world))
            self.assertEqual(world[x], price)
            self.assertEqual(ahead, tuple(y for y in range(16) if key(world, y) < key(world, x)))
            self.assertEqual(notes.after((x,), world).seen(x), True)

    def test_more_than_sixty_comparisons_of_its_own(self):
        notes = Notes.along(range(16)[::-1])
        for x, y in combinations(range(15, -1, -1), 2):
            notes = notes.compare(x, y)
        self.assertEqual([len(notes.pairs), notes.lows], [120, tuple(range(15, -1, -1))])


class RandomNotesTest(unittest.TestCase):
    def test_five_things(self):
        chance = random.Random(38)
        for _ in range(12):
            for known in (plain_for(chance, 5), known_for(chance, 5)):
                for x in range(5):
                    ahead = tuple(y for y in range(5) if known.before_in_all(y, x))
                    self.assertEqual(known.notes.must_precede(x), ahead)
                    late = least_of([world for world in known.worlds if world[x] == known.notes.highs[x]])
                    self.assertEqual(known.notes.latest(x), late)

    def test_known_are_what_they_should_be(self):
        self.assertGreater(len([known for known in SMALL_KNOWN if known.pairs]), 30)
        self.assertGreater(len([known for known in SMALL_KNOWN if not known.pairs]), 30)
        self.assertGreater(max(len(known.worlds) for known in SMALL_KNOWN), 100)
        self.assertTrue(any(known.stretches[0][1] == TOP for known in SMALL_KNOWN if known.size))
        self.assertEqual(len(all_stretches(2)), 6)
