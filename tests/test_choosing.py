"""Points 27, 46, 47, 49 and 50: the lot of a world, cheapest lots, critical keys, one changed price."""

import random
import unittest

from tests.cases import CASES
from tests.kinds import DEEP_RULES, WIDE_RULES
from tests.knowing import key
from tests.meaning import raised, with_things, without_things
from tests.refusals import no_worlds_alone, refuses, refuses_sets, refuses_things, refuses_worlds
from unseenprices.choosing import critical_key, dearer, lot_of, moved, out_of_order, price_of
from unseenprices.connected import parts
from unseenprices.counting import Firsts, Works
from unseenprices.many import Many
from unseenprices.nets import Net
from unseenprices.rules import Rule
from unseenprices.sets import TOP, minus
from unseenprices.shapes import Less
from unseenprices.sums import Sum

NET = Net(4, ((0, 1), (1, 2), (0, 2), (2, 3), (2, 3)))
WIDE_WORLDS = 4


def some_worlds(case, step=9):
    return case.worlds[::step]


def wide_worlds(size, seed):
    """Return some worlds of so many things, with equal prices and with the ends of the prices."""
    chance = random.Random(seed)
    found = [tuple(chance.choice((0, 3, TOP)) for _ in range(size)), (5,) * size]
    return found + [tuple(chance.randrange(TOP + 1) for _ in range(size)) for _ in range(WIDE_WORLDS - 2)]


class LotOfTest(unittest.TestCase):
    def test_every_small_rule(self):
        for case in CASES:
            for world, lot in zip(case.worlds, case.found):
                self.assertEqual(lot_of(case.rule, list(world)), lot)
                self.assertEqual(lot, case.finder.taken(world))
                self.assertIn(lot, case.finder.cheapest(world))

    def test_examples(self):
        self.assertEqual(lot_of(NET, (2, 2, 5, 1, 4)), (0, 1, 3))
        self.assertEqual(lot_of(NET, (7, 7, 7, 7, 7)), (0, 1, 3))
        self.assertEqual(lot_of(NET, [TOP, 0, TOP, TOP, 0]), (0, 1, 4))
        self.assertEqual([lot_of(Rule(0), ()), lot_of(Firsts(3, 0), (1, 2, 3))], [(), ()])
        self.assertEqual(lot_of(Rule(2), (1, 0)), (0, 1))

    def test_part_by_part(self):
        for rule in WIDE_RULES + DEEP_RULES:
            for world in wide_worlds(rule.size, 61)[::2]:
                lot = lot_of(rule, world)
                for part in parts(rule):
                    alone = Less(rule, minus(range(rule.size), part))
                    self.assertEqual(lot_of(alone, world), tuple(x for x in lot if x in part))

    def test_sums(self):
        small = [case for case in CASES if case.meaning.size <= 4][::40]
        for one, other in zip(small, small[1:]):
            world = one.worlds[0] + other.worlds[-1]
            moved_lot = tuple(x + one.known.size for x in other.found[-1])
            self.assertEqual(lot_of(Sum(one.rule, other.rule), world), one.found[0] + moved_lot)

    def test_nested_lots(self):
        for rule in WIDE_RULES[:4] + DEEP_RULES[:20:5]:
            for world in wide_worlds(rule.size, 62):
                row = [lot_of(Many(rule, k), world) for k in (1, 2, 3)]
                self.assertTrue(set(row[0]) <= set(row[1]) <= set(row[2]))

    def test_wide(self):
        for rule in WIDE_RULES + DEEP_RULES:
            for world in wide_worlds(rule.size, 63):
                lot = lot_of(rule, world)
                self.assertTrue(rule.is_lot(lot))
                self.assertIsNone(out_of_order(rule, lot, world))
                self.assertIsNone(dearer(rule, lot, world))

    def test_errors(self):
        for rule in (Firsts(3, 1), Firsts(3, 0), Rule(0), NET):
            refuses_worlds(self, rule.size, lambda world: lot_of(rule, world))

    def test_the_list_stays(self):
        world = [3, 1, 2]
        self.assertEqual([lot_of(Firsts(3, 2), world), world], [(1, 2), [3, 1, 2]])


class PriceOfTest(unittest.TestCase):
    def test_sums(self):
        self.assertEqual([price_of((3, 1, TOP), (0, 2)), price_of([3, 1], []), price_of((), ())], [TOP + 3, 0, 0])
        self.assertEqual(price_of((TOP,) * 16, list(range(16))), 16 * TOP)

    def test_errors_in_order(self):
        refuses(self, "BadWorld", "place", no_worlds_alone(), lambda world: price_of(world, (9,)))
        for size in range(4):
            refuses_sets(self, size, lambda things: price_of((1,) * size, things))


class InOrderTest(unittest.TestCase):
    def test_every_small_rule(self):
        for case in CASES:
            for world in some_worlds(case):
                cheapest = case.finder.cheapest(world)
                for lot, pairs in case.finder.exchanges.items():
                    wrong = [(e, f) for e, f in pairs if key(world, f) < key(world, e)]
                    self.assertEqual(out_of_order(case.rule, list(lot), list(world)), wrong[0] if wrong else None)
                    self.assertEqual(not wrong, lot == case.finder.taken(world))
                    worse = [(e, f) for e, f in pairs if world[e] > world[f]]
                    self.assertEqual(dearer(case.rule, lot, world), worse[0] if worse else None)
                    self.assertEqual(not worse, lot in cheapest)

    def test_as_many_of_each_price(self):
        for case in CASES:
            for world in some_worlds(case, 30):
                cheapest = case.finder.cheapest(world)
                for lot in case.meaning.lots:
                    cheap = [tuple(x for x in case.meaning.all if world[x] <= v) for v in world]
                    just = all(case.meaning.ranks[row] == len([x for x in lot if x in row]) for row in cheap)
                    self.assertEqual(just, lot in cheapest)

    def test_equal_prices(self):
        self.assertEqual([out_of_order(Firsts(2, 1), (1,), (4, 4)), dearer(Firsts(2, 1), (1,), (4, 4))], [(1, 0), None])
        self.assertEqual([out_of_order(Firsts(2, 1), (0,), (4, 4)), dearer(Firsts(2, 1), (0,), (5, 4))], [None, (0, 1)])

    def test_errors_in_order(self):
        for call in (out_of_order, dearer):
            refuses_sets(self, 5, lambda lot: call(NET, lot, None))
            self.assertEqual(raised(call, NET, [0, 1, 2], (1,)), ("NotALot", {"things": (0, 1, 2)}))
            self.assertEqual(raised(call, NET, (0, 1), None), ("NotALot", {"things": (0, 1)}))
            refuses_worlds(self, 5, lambda world: call(NET, (0, 1, 3), world))


class CriticalKeyTest(unittest.TestCase):
    def told(self, case, world, thing):
        """Return what point 49 words last: the least, over the circuits with the thing, of the greatest other key."""
        if thing in case.meaning.dead():
            return ()
        keys = [max(key(world, y) for y in row if y != thing) for row in case.meaning.circuits if thing in row]
        return min(keys) if keys else None

    def test_every_small_rule(self):
        for case in CASES:
            for world, lot in list(zip(case.worlds, case.found))[::9]:
                for thing in case.meaning.all:
                    found = critical_key(case.rule, list(world), thing)
                    self.assertEqual(found, self.told(case, world, thing))
                    inside = found is None or (found != () and key(world, thing) < found)
                    self.assertIs(inside, thing in lot)

    def test_as_point_49_words_it_first(self):
        for case in CASES[::3]:
            for world in some_worlds(case, 40):
                for thing in case.meaning.all:
                    keys = []
                    for y in without_things(case.meaning.all, (thing,)):
                        row = tuple(z for z in case.meaning.all if z != thing and key(world, z) <= key(world, y))
                        if case.meaning.ranks[with_things(row, (thing,))] == case.meaning.ranks[row]:
                            keys.append(key(world, y))
                    told = () if thing in case.meaning.dead() else min(keys) if keys else None
                    self.assertEqual(critical_key(case.rule, world, thing), told)

    def test_the_own_price_does_not_matter(self):
        for price in (0, 3, TOP):
            self.assertEqual(critical_key(NET, (price, 2, 5, 1, 4), 0), (5, 2))
            self.assertEqual(critical_key(NET, (2, 2, price, 1, 4), 2), (2, 1))
        self.assertEqual(critical_key(NET, (2, 2, 5, 6, 4), 3), (4, 4))

    def test_firm_and_dead(self):
        net = Net(3, ((0, 1), (1, 1), (1, 2)))
        self.assertEqual([critical_key(net, (5, 5, 5), x) for x in range(3)], [None, (), None])
        self.assertEqual([critical_key(Firsts(2, 0), (5, 5), 0), critical_key(Rule(2), (5, 5), 0)], [(), None])
        self.assertEqual([critical_key(Works((0, 1, 1)), (5, 6, 7), x) for x in range(3)], [(), (7, 2), (6, 1)])

    def test_wide(self):
        for rule in WIDE_RULES + DEEP_RULES:
            for world in wide_worlds(rule.size, 64)[:2]:
                lot, dead, firm = lot_of(rule, world), rule.dead(), rule.firm()
                for thing in range(0, rule.size, 3):
                    found = critical_key(rule, world, thing)
                    self.assertEqual([found is None, found == ()], [thing in firm, thing in dead])
                    if found:
                        self.assertEqual(found[0], world[found[1]])
                        self.assertIs(key(world, thing) < found, thing in lot)

    def test_errors_in_order(self):
        refuses_worlds(self, 3, lambda world: critical_key(Firsts(3, 1), world, 9))
        refuses_things(self, 3, lambda thing: critical_key(Firsts(3, 1), (1, 2, 3), thing))


class MovedTest(unittest.TestCase):
    def test_every_small_rule(self):
        chance = random.Random(65)
        for case in CASES:
            for world, lot in list(zip(case.worlds, case.found))[::11]:
                for thing in case.meaning.all:
                    price = chance.choice([p for p in (0, 1, 2, 3, TOP, TOP - 1, TOP - 2) if p != world[thing]])
                    other = (*world[:thing], price, *world[thing + 1:])
                    goal = case.finder.lot(other)
                    found = moved(case.rule, list(world), list(other))
                    if goal == lot:
                        self.assertEqual(found, ())
                    else:
                        self.assertIn(found, case.finder.exchanges[lot])
                        self.assertIn(thing, found)
                        self.assertEqual(with_things(without_things(lot, found[:1]), found[1:]), goal)

    def test_examples(self):
        self.assertEqual(moved(NET, (2, 2, 5, 1, 4), (2, 6, 5, 1, 4)), (1, 2))
        self.assertEqual(moved(NET, (2, 2, 5, 1, 4), (2, 2, 1, 1, 4)), (1, 2))
        self.assertEqual(moved(NET, (2, 2, 5, 1, 4), (2, 5, 5, 1, 4)), ())

    def test_errors_in_order(self):
        rule = Firsts(3, 1)
        refuses_worlds(self, 3, lambda world: moved(rule, world, None))
        refuses_worlds(self, 3, lambda world: moved(rule, (0, 1, 2), world))
        self.assertEqual(raised(moved, Firsts(2, 1), (0, 1), (0, 1)), ("BadWorld", {"place": 2}))
        self.assertEqual(raised(moved, Rule(0), (), []), ("BadWorld", {"place": 0}))
        self.assertEqual(raised(moved, rule, (0, 1, 2), [0, 1, 2]), ("BadWorld", {"place": 3}))
        self.assertEqual(raised(moved, rule, (0, 1, 2), (1, 1, 3)), ("BadWorld", {"place": 2}))
        self.assertEqual(raised(moved, rule, (0, 1, 2), (1, 2, 3)), ("BadWorld", {"place": 1}))
        self.assertEqual(raised(moved, rule, (0, 1, 2), (0, 2, 3)), ("BadWorld", {"place": 2}))
