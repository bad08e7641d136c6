"""Points 91 to 96: safe papers in a told world."""

import unittest

from tests.asking import ASKINGS, COMPARED, NET, NOTES, OPEN, SMALL, WORLD, most_apart
from tests.kinds import DEEP_RULES, WIDE_RULES
from tests.meaning import raised
from tests.refusals import refuses_sets, refuses_worlds
from tests.test_surelots import wide_notes
from unseenprices.choosing import lot_of
from unseenprices.counting import Firsts
from unseenprices.critical import critical_price
from unseenprices.equals import safe_lot, unsafe
from unseenprices.notes import Notes
from unseenprices.papers import Told
from unseenprices.rules import Rule
from unseenprices.safepapers import SafeTold, fewest_for
from unseenprices.sets import TOP, turned_rest
from unseenprices.shapes import Drawn
from unseenprices.sums import Sum
from unseenprices.turned import Turned
from unseenprices.worlds import turned_world

# A critical price above all prices.
ABOVE = TOP + 1


def told_worlds(askings, every=1):
    """Return each of the told worlds of the cases, or every so many of them, with what asking leaves there."""
    for asking in askings:
        for world in asking.case.worlds[::every]:
            yield asking, world, SafeTold(asking.case.rule, asking.case.notes, list(world))


def critical_of(case, world, thing):
    """Return the critical price as a number: -1 for a dead thing, ABOVE for a firm one."""
    found = critical_price(case.rule, world, thing)
    return ABOVE if found is None else found


class Kinds:
    """The sharp, topped and grounded things of a world and its far pairs, as points 93 and 94 word them."""

    def __init__(self, asking, world):
        case = asking.case
        stretches = case.known.stretches
        critical = [critical_of(case, world, x) for x in case.meaning.all]
        self.critical = critical
        unseen = asking.unseen
        self.sharp = tuple(x for x in unseen if stretches[x][0] < critical[x] < stretches[x][1])
        rest = [x for x in unseen if x not in self.sharp]
        self.rest = rest
        self.topped = tuple(x for x in rest if world[x] == stretches[x][1] == critical[x])
        self.grounded = tuple(x for x in rest if world[x] == stretches[x][0] == critical[x])

    def far(self, asking, world, lot):
        """Return the far pairs among the exchanges of a cheapest lot."""
        stretches = asking.case.known.stretches
        return tuple(
            (e, f) for e, f in asking.case.finder.exchanges[lot]
            if e in self.rest and f in self.rest and stretches[e][1] > stretches[f][0]
            and world[e] < self.critical[e] and world[f] > self.critical[f]
        )


class AttributesTest(unittest.TestCase):
    def test_fewest_and_paper(self):
        less = 0
        for asking, world, told in told_worlds(ASKINGS):
            self.assertEqual([told.fewest, len(told.paper)], [asking.fewest_safe(world)] * 2)
            # The lot itself is safe behind the paper, not just some lot.
            self.assertIn(told.lot, asking.safe[asking.left(world, told.paper)])
            self.assertLessEqual(told.fewest, asking.fewest(world))
            less += told.fewest < asking.fewest(world)
            self.assertEqual([told.world, list(told)], [world, list(told.paper)])
        self.assertGreater(less, 100)

    def test_sharp_and_far(self):
        some = [0, 0, 0, 0]
        for asking, world, told in told_worlds(ASKINGS, 2):
            case = asking.case
            kinds = Kinds(asking, world)
            place = case.worlds.index(world)
            self.assertEqual([told.sharp, told.far], [kinds.sharp, kinds.far(asking, world, case.found[place])])
            for lot in case.cheapest[place]:
                self.assertEqual(told.far, kinds.far(asking, world, lot))
            for things in asking.safe_papers(world):
                self.assertLessEqual({*kinds.sharp}, {*things})
            for at, found in enumerate((kinds.sharp, kinds.topped, kinds.grounded, told.far)):
                some[at] += len(found) > 0
        self.assertGreater(min(some), 100)

    def test_the_lot_best_to_show(self):
        # Point 95.
        for asking, world, told in told_worlds(ASKINGS, 2):
            kinds = Kinds(asking, world)
            weight = {**{x: 0 for x in kinds.topped}, **{x: 2 for x in kinds.grounded}}
            row = sorted(asking.case.meaning.all, key=lambda x: (world[x], weight.get(x, 1), x))
            lot = ()
            for x in row:
                if tuple(sorted((*lot, x))) in asking.case.meaning.free:
                    lot = tuple(sorted((*lot, x)))
            self.assertEqual(told.lot, lot)
            self.assertIn(lot, asking.case.cheapest[asking.case.worlds.index(world)])
            inside = [x for x in kinds.grounded if x in lot]
            beyond = [x for x in kinds.topped if x not in lot]
            self.assertEqual(told.forced, tuple(sorted([*kinds.sharp, *inside, *beyond])))
            self.assertEqual(told.pairs, told.far)

    def test_row(self):
        for _, _, told in told_worlds(OPEN, 2):
            self.assertEqual(told.row, tuple(sorted(told.row)))
            self.assertLessEqual({*told.row}, {*told.far})
            self.assertEqual(len({x for pair in told.row for x in pair}), 2 * len(told.row))
            self.assertEqual(len(told.row), most_apart(list(told.far)))
            self.assertEqual(told.fewest, len(told.forced) + len(told.row))

    def test_four_numbers(self):
        # Point 94: the sharp things, the topped and the grounded things of each price, and the row of far pairs.
        for asking, world, told in told_worlds(OPEN, 5):
            rule = asking.case.rule
            kinds = Kinds(asking, world)
            total = len(kinds.sharp) + len(told.row)
            for price in {*world}:
                drawn = Drawn(rule, [x for x in asking.case.meaning.all if world[x] < price])
                topped = [x for x in kinds.topped if world[x] == price]
                same = [x for x in asking.case.meaning.all if world[x] == price]
                total += len(topped) - drawn.rank(topped)
                total += drawn.rank(same) - drawn.rank([x for x in same if x not in kinds.grounded])
            self.assertEqual(total, told.fewest)

    def test_is_a_told_world(self):
        told = SafeTold(NET, NOTES, list(WORLD))
        self.assertIsInstance(told, Told)
        self.assertIs(told.rule, NET)
        self.assertIs(told.notes, NOTES)
        self.assertEqual([told.world, [x in told for x in range(5)]], [WORLD, [x in told.paper for x in range(5)]])
        self.assertIs(None in told, False)

    def test_examples(self):
        told = SafeTold(Firsts(3, 1), Notes([(0, 1), (0, 1), (0, 1)]), (1, 0, 1))
        found = [told.lot, told.sharp, told.far, told.paper, told.fewest]
        self.assertEqual(found, [(1,), (), ((1, 0), (1, 2)), (1,), 1])
        told = SafeTold(NET, NOTES, WORLD)
        self.assertEqual([told.lot, told.sharp, told.fewest], [(0, 1, 3), (3,), 2])

    def test_edges(self):
        for rule, notes, world in (
            (Rule(0), Notes(()), ()), (Rule(2), Notes.unknown(2), (0, TOP)), (Firsts(2, 0), Notes.unknown(2), (5, 5)),
            (Firsts(2, 1), Notes(((4, 4), (4, 4))), (4, 4)), (Firsts(2, 1), Notes(((4, 5), (0, 4))), (4, 4)),
        ):
            told = SafeTold(rule, notes, world)
            self.assertEqual([told.sharp, told.far, told.forced, told.pairs, told.row], [()] * 5)
            self.assertEqual([told.paper, told.fewest, told.shows(())], [(), 0, True])
        # Topped, grounded and sharp things that cost the same.
        two = Firsts(2, 1)
        told = SafeTold(two, Notes(((0, 4), (0, 4))), (4, 4))
        self.assertEqual([told.lot, told.forced, told.fewest], [(0,), (1,), 1])
        told = SafeTold(two, Notes(((4, 9), (4, 9))), (4, 4))
        self.assertEqual([told.lot, told.forced, told.fewest], [(0,), (0,), 1])
        told = SafeTold(two, Notes(((4, 9), (0, 4))), (4, 4))
        self.assertEqual([told.lot, told.forced, told.pairs, told.fewest], [(1,), (), (), 0])
        told = SafeTold(two, Notes(((0, TOP), (0, TOP))), (5, 5))
        self.assertEqual([told.sharp, told.forced, told.fewest], [(0, 1), (0, 1), 2])
        told = SafeTold(two, Notes(((0, TOP), (0, TOP))), (0, TOP))
        self.assertEqual([told.sharp, told.far, told.fewest], [(), ((0, 1),), 1])

    def test_the_some_foe(self):
        for size in (2, 3, 9, 16):
            world = (1,) * (size - 1) + (0,)
            told = SafeTold(Firsts(size, 1), Notes(((0, 1),) * size), world)
            self.assertEqual([told.lot, told.paper, told.fewest], [(size - 1,), (size - 1,), 1])


class ShowsTest(unittest.TestCase):
    def test_every_set(self):
        for asking, world, told in told_worlds(OPEN, 9):
            seen = [x for x in asking.case.meaning.all if x not in asking.unseen]
            for things in asking.sets:
                self.assertIs(told.shows(list(things)), asking.is_safe(world, things))
            for things in asking.sets[::3]:
                self.assertIs(told.shows(sorted([*things, *seen])), asking.is_safe(world, things))
        for asking in ASKINGS:
            told = SafeTold(asking.case.rule, asking.case.notes, asking.case.worlds[-1])
            self.assertIs(told.shows(()), asking.is_safe(told.world, ()))

    def test_another_lot_may_be_safe(self):
        # Behind asking thing 2 alone the lot (2,) is safe, but the one best to show is not.
        notes = Notes(((4, 4), (2, 4), (2, 3)))
        told = SafeTold(SMALL, notes, (4, 2, 2))
        self.assertEqual([told.lot, told.shows((2,)), told.shows((1,)), told.shows((0,))], [(1,), True, True, False])
        self.assertIsNotNone(unsafe(SMALL, notes.ask(2, 2), told.lot))

    def test_each_paper_is_a_safe_paper(self):
        for asking, world, told in told_worlds(OPEN, 9):
            for things in asking.papers(world):
                self.assertIs(told.shows(things), True)


class FewestForTest(unittest.TestCase):
    def test_every_lot(self):
        some = 0
        for asking, world, told in told_worlds(ASKINGS, 2):
            case = asking.case
            for lot in case.meaning.lots:
                found = fewest_for(case.rule, case.notes, list(world), list(lot))
                self.assertEqual(found, asking.fewest_for(world, lot))
                self.assertEqual(found is None, lot not in case.cheapest[case.worlds.index(world)])
                self.assertTrue(found is None or found >= told.fewest)
                some += found is not None and found > told.fewest
        self.assertGreater(some, 100)

    def test_examples(self):
        self.assertEqual([fewest_for(NET, NOTES, WORLD, lot) for lot in ((0, 1, 3), (1, 2, 3))], [2, None])
        notes = Notes(((4, 9), (0, 4)))
        self.assertEqual([fewest_for(Firsts(2, 1), notes, (4, 4), (x,)) for x in range(2)], [2, 0])
        self.assertEqual(fewest_for(Rule(0), Notes(()), (), ()), 0)


class ErrorsTest(unittest.TestCase):
    def test_made(self):
        for call in (SafeTold, lambda *row: fewest_for(*row, (9,))):
            refuses_worlds(self, 5, lambda world: call(NET, NOTES, world))
            self.assertEqual(raised(call, NET, NOTES, [0, 2, 9, 1, 4]), ("NotAgreeing", {"thing": 0}))
            self.assertEqual(raised(call, NET, COMPARED, None), ("NotPlain", {}))
            self.assertEqual(raised(call, SMALL, COMPARED, None), ("OtherSize", {"size": 5}))

    def test_sets_and_lots(self):
        refuses_sets(self, 5, SafeTold(NET, NOTES, WORLD).shows)
        refuses_sets(self, 5, lambda lot: fewest_for(NET, NOTES, WORLD, lot))
        for wrong in ((), (0, 1), (0, 1, 2), (0, 1, 2, 3)):
            self.assertEqual(raised(fewest_for, NET, NOTES, WORLD, list(wrong)), ("NotALot", {"things": wrong}))


class ShapesTest(unittest.TestCase):
    def test_sums(self):
        small = [asking.case for asking in OPEN if asking.case.known.size <= 4][::7]
        for one, other in zip(small, small[1:]):
            for world, second in zip(one.worlds[::9], other.worlds[::7]):
                whole = SafeTold(Sum(one.rule, other.rule), one.notes + other.notes, world + second)
                first = SafeTold(one.rule, one.notes, world)
                self.assertEqual(whole.fewest, first.fewest + SafeTold(other.rule, other.notes, second).fewest)

    def test_turned(self):
        for asking, world, told in told_worlds(ASKINGS, 6):
            case = asking.case
            rule, notes, turned = Turned(case.rule), ~case.notes, turned_world(world)
            self.assertEqual(SafeTold(rule, notes, turned).fewest, told.fewest)
            lot = case.cheapest[case.worlds.index(world)][-1]
            found = fewest_for(rule, notes, turned, turned_rest(case.known.size, lot))
            self.assertEqual(found, fewest_for(case.rule, case.notes, world, lot))

    def test_sixteen_things(self):
        for place, rule in enumerate(WIDE_RULES + DEEP_RULES[::3]):
            plain = wide_notes(rule.size, place, 0)
            # Few different prices, so that many are equal.
            notes = Notes([(low // 9, high // 9 + 1) for low, high in plain.stretches])
            for world in (notes.lows, notes.highs, notes.latest(place % rule.size)):
                told = SafeTold(rule, notes, world)
                self.assertEqual(told.pairs, told.far)
                self.assertEqual(fewest_for(rule, notes, world, told.lot), told.fewest)
                self.assertLessEqual(told.fewest, fewest_for(rule, notes, world, lot_of(rule, world)))
                self.assertLessEqual(told.fewest, Told(rule, notes, world).fewest)
                self.assertIs(told.shows(told.paper), True)
                more = notes.after(told.paper, world)
                self.assertIsNone(unsafe(rule, more, told.lot))
                self.assertIsNotNone(safe_lot(rule, more))
