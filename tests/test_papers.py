"""Points 81 to 90, 96 and 133: papers in a told world."""

import random
import unittest
from itertools import combinations, combinations_with_replacement

from tests.asking import (
    ASKINGS, COMPARED, NET, NOTES, OPEN, SMALL, WORLD, forced_of, lean, loose_of, most_apart,
)
from tests.kinds import DEEP_RULES, WIDE_RULES
from tests.knowing import key
from tests.meaning import raised, turned_of
from tests.refusals import NO_COUNTS, refuses_sets, refuses_worlds
from tests.test_surelots import wide_notes
from unseenprices.choosing import lot_of
from unseenprices.counting import Firsts
from unseenprices.dues import is_due, pressing, useful
from unseenprices.kernels import kernel
from unseenprices.notes import Notes
from unseenprices.papers import Told
from unseenprices.rules import Rule
from unseenprices.sets import TOP
from unseenprices.shapes import Drawn, Less
from unseenprices.sums import Sum
from unseenprices.surelots import sure_lot
from unseenprices.turned import Turned
from unseenprices.worlds import turned_world


def told_worlds(askings, every=1):
    """Return each of the told worlds of the cases, or every so many of them, with what asking leaves there."""
    for asking in askings:
        for world in asking.case.worlds[::every]:
            yield asking, world, Told(asking.case.rule, asking.case.notes, list(world))


class AttributesTest(unittest.TestCase):
    def test_every_world(self):
        some = 0
        for asking, world, told in told_worlds(ASKINGS):
            case = asking.case
            papers = asking.papers(world)
            self.assertEqual([told.world, told.lot], [world, case.found[case.worlds.index(world)]])
            self.assertEqual(told.forced, tuple(x for x in asking.unseen if all(x in one for one in papers)))
            self.assertIn(told.paper, papers)
            self.assertEqual([told.fewest, len(told.paper)], [asking.fewest(world)] * 2)
            some += told.pairs != ()
        self.assertGreater(some, 500)

    def test_pairs_and_row(self):
        for asking, world, told in told_worlds(ASKINGS, 2):
            loose = loose_of(asking.case, told.lot)
            self.assertEqual(told.forced, forced_of(asking.case, world, loose))
            pairs = [pair for pair in loose if not set(pair) & set(told.forced)]
            self.assertEqual(told.pairs, tuple(pairs))
            self.assertEqual(told.row, tuple(sorted(told.row)))
            self.assertLessEqual({*told.row}, {*pairs})
            self.assertEqual(len(told.row), most_apart(pairs))
            self.assertEqual(len({x for pair in told.row for x in pair}), 2 * len(told.row))
            self.assertEqual(told.fewest, len(told.forced) + len(told.row))

    def test_the_very_rule_and_notes(self):
        told = Told(NET, NOTES, list(WORLD))
        self.assertIs(told.rule, NET)
        self.assertIs(told.notes, NOTES)
        self.assertEqual([told.world, told.lot, told.forced, told.pairs], [WORLD, (0, 1, 3), (3,), ((0, 2),)])
        self.assertEqual([told.row, told.fewest, told.paper in ((0, 3), (2, 3))], [((0, 2),), 2, True])

    def test_iterating_and_in(self):
        for _, _, told in told_worlds(OPEN, 7):
            self.assertEqual(list(told), list(told.paper))
            self.assertEqual([x for x in range(-2, 9) if x in told], list(told.paper))
        told = Told(SMALL, Notes([(0, 2), (1, 1), (3, 3)]), (0, 1, 3))
        self.assertEqual([told.paper, list(told), 0 in told], [(0,), [0], True])
        for wrong in (None, "0", (0,), [0], 0.0, 5, -1, {}, told):
            self.assertIs(wrong in told, False)

    def test_edges(self):
        for rule, notes, world in (
            (Rule(0), Notes(()), ()), (Rule(2), Notes.unknown(2), (0, TOP)), (Firsts(2, 0), Notes.unknown(2), (5, 5)),
            (Firsts(2, 1), Notes(((4, 4), (4, 4))), (4, 4)), (Firsts(2, 1), Notes(((0, 4), (4, TOP))), (4, 4)),
        ):
            told = Told(rule, notes, world)
            self.assertEqual([told.forced, told.pairs, told.row, told.paper, told.fewest], [(), (), (), (), 0])
            self.assertEqual([told.lean_papers(), list(told), told.doubled(3)], [[()], [], []])
            self.assertIs(told.shows(()), True)
            self.assertIsNone(told.two_worlds(()))
        told = Told(Firsts(2, 1), Notes(((0, TOP), (0, TOP))), (TOP, TOP))
        self.assertEqual([told.lot, told.forced, told.pairs, told.fewest], [(0,), (1,), (), 1])
        told = Told(Firsts(2, 1), Notes(((0, TOP), (0, TOP))), (0, 0))
        self.assertEqual([told.lot, told.forced, told.lean_papers()], [(0,), (0,), [(0,)]])
        told = Told(Firsts(2, 1), Notes(((0, TOP), (0, TOP))), (0, TOP))
        self.assertEqual([told.forced, told.pairs, told.lean_papers()], [(), ((0, 1),), [(0,), (1,)]])


class ShowsTest(unittest.TestCase):
    def test_every_set(self):
        for asking, world, told in told_worlds(ASKINGS):
            for things in asking.sets:
                self.assertIs(told.shows(list(things)), asking.is_paper(world, things))

    def test_seen_things_make_no_difference(self):
        for asking, world, told in told_worlds(ASKINGS, 5):
            seen = [x for x in asking.case.meaning.all if x not in asking.unseen]
            for things in asking.sets:
                more = tuple(sorted({*things, *seen}))
                self.assertIs(told.shows(more), asking.is_paper(world, things))
                self.assertEqual(told.two_worlds(more), told.two_worlds(things))

    def test_two_worlds(self):
        for asking, world, told in told_worlds(ASKINGS, 2):
            case = asking.case
            for things in asking.sets:
                found = told.two_worlds(list(things))
                self.assertEqual(found is None, asking.is_paper(world, things))
                if found is not None:
                    self.assertIsInstance(found, tuple)
                    first, second = found
                    self.assertEqual(first, world)
                    self.assertEqual([second[x] for x in things], [world[x] for x in things])
                    self.assertNotEqual(case.found[case.worlds.index(second)], told.lot)
                    self.assertEqual(second, self.changed(asking, world, told, things))

    def changed(self, asking, world, told, things):
        """Return the changed world of point 83 for the least loose exchange that the set does not meet."""
        stretches = asking.case.known.stretches
        for e, f in loose_of(asking.case, told.lot):
            forces_e = key(world, f) < (stretches[e][1], e)
            forces_f = (stretches[f][0], f) < key(world, e)
            has = (e in things, f in things)
            if has == (True, True) or has == (True, False) and not forces_f or has == (False, True) and not forces_e:
                continue
            prices = list(world)
            prices[e] = world[e] if has[0] else stretches[e][1]
            prices[f] = world[f] if has[1] else stretches[f][0]
            return tuple(prices)
        raise AssertionError("all loose exchanges are met")

    def test_example(self):
        told = Told(NET, NOTES, WORLD)
        self.assertEqual(told.two_worlds((0,)), ((2, 2, 5, 1, 4), (2, 2, 5, 5, 4)))
        self.assertEqual([told.shows((0,)), told.shows((0, 3)), told.shows((1, 2, 3, 4))], [False, True, True])


class LeanTest(unittest.TestCase):
    def test_every_world(self):
        several = 0
        for asking, world, told in told_worlds(ASKINGS, 2):
            found = told.lean_papers()
            self.assertEqual(found, lean(asking.papers(world)))
            several += len({len(one) for one in found}) > 1
        self.assertGreater(several, 20)

    def test_ten_and_more(self):
        notes = Notes([(0, 9)] * 10 + [(4, 4)] * 6)
        told = Told(Firsts(16, 5), notes, (1,) * 10 + (4,) * 6)
        self.assertIn(told.paper, told.lean_papers())
        for many in (11, 12, 16):
            notes = Notes([(0, 9)] * many + [(4, 4)] * (16 - many))
            told = Told(Firsts(16, 5), notes, (1,) * many + (4,) * (16 - many))
            self.assertEqual(raised(told.lean_papers), ("TooMany", {"number": many}))
        self.assertEqual(raised(Told(Rule(11), Notes.unknown(11), (3,) * 11).lean_papers), ("TooMany", {"number": 11}))

    def test_many_papers(self):
        # Five classes with one place each, of two things, each pair an either pair.
        rule, notes = Firsts(2, 1), Notes([(0, 9), (5, 15)])
        for _ in range(4):
            rule, notes = Sum(rule, Firsts(2, 1)), notes + Notes([(0, 9), (5, 15)])
        told = Told(rule, notes, (2, 12) * 5)
        self.assertEqual([len(told.pairs), len(told.lean_papers()), told.fewest], [5, 32, 5])


class DoubledTest(unittest.TestCase):
    def test_every_world(self):
        for _, _, told in told_worlds(OPEN, 3):
            for number in range(4):
                found = told.doubled(number)
                self.assertEqual(found, sorted(found))
                self.assertEqual(found, [x for x in told.paper for _ in range(number + 1)])
                self.assertEqual(len(found), (number + 1) * told.fewest)

    def test_no_shorter_list_bears_as_much(self):
        for asking, world, told in told_worlds([one for one in OPEN if len(one.unseen) <= 3][::9], 4):
            for number in (1, 2):
                self.assertTrue(self.bears(asking, world, told.doubled(number), number))
                many = (number + 1) * told.fewest - 1
                for row in combinations_with_replacement(asking.unseen, many):
                    self.assertFalse(self.bears(asking, world, row, number))

    def bears(self, asking, world, row, number):
        left = combinations(row, max(0, len(row) - number))
        return all(asking.is_paper(world, tuple(sorted({*one}))) for one in left)

    def test_bad_numbers(self):
        told = Told(NET, NOTES, WORLD)
        for wrong in NO_COUNTS:
            self.assertEqual(raised(told.doubled, wrong), ("BadNumber", {"name": "number"}))

    def test_new_lists(self):
        told = Told(NET, NOTES, WORLD)
        for call in (lambda: told.doubled(1), told.lean_papers):
            before = list(call())
            call().append(None)
            self.assertEqual(call(), before)
        world, things = list(WORLD), [0, 3]
        told = Told(NET, NOTES, world)
        told.shows(things)
        told.two_worlds(things)
        self.assertEqual([world, things], [list(WORLD), [0, 3]])
        world[0] = 4
        self.assertEqual(told.world, WORLD)


class ErrorsTest(unittest.TestCase):
    def test_made(self):
        refuses_worlds(self, 5, lambda world: Told(NET, NOTES, world))
        self.assertEqual(raised(Told, NET, NOTES, [0, 2, 9, 1, 4]), ("NotAgreeing", {"thing": 0}))
        self.assertEqual(raised(Told, NET, NOTES, [1, 2, 3, 1, 5]), ("NotAgreeing", {"thing": 4}))
        self.assertEqual(raised(Told, NET, COMPARED, None), ("NotPlain", {}))
        self.assertEqual(raised(Told, SMALL, COMPARED, None), ("OtherSize", {"size": 5}))

    def test_sets(self):
        told = Told(NET, NOTES, WORLD)
        refuses_sets(self, 5, told.shows)
        refuses_sets(self, 5, told.two_worlds)


class AskingTest(unittest.TestCase):
    def test_one_ask(self):
        # Point 86: what one ask changes.
        for asking, world, told in told_worlds(OPEN, 5):
            least = [things for things in asking.papers(world) if len(things) == told.fewest]
            for x in asking.unseen:
                more = Told(asking.case.rule, asking.case.notes.ask(x, world[x]), world)
                having = any(x in things for things in least)
                self.assertEqual(more.fewest, told.fewest - 1 if having else told.fewest)

    def test_lows_and_highs(self):
        # Point 88: what is pressing, and that nothing is to be asked in one world if nothing is in another one.
        for asking in ASKINGS:
            case = asking.case
            found = [Told(case.rule, case.notes, world).fewest for world in case.worlds[::4]]
            self.assertLessEqual(len(pressing(case.rule, case.notes)), min(found))
            none = sure_lot(case.rule, case.notes) is not None
            self.assertEqual([one == 0 for one in found], [none] * len(found))

    def test_first_k(self):
        # Point 87: the pairs of the first k.
        chance = random.Random(87)
        for _ in range(300):
            size = chance.randrange(2, 7)
            k = chance.randrange(1, size)
            notes = Notes([(low, low + chance.randrange(6)) for low in [chance.randrange(6) for _ in range(size)]])
            world = tuple(chance.randrange(low, high + 1) for low, high in notes.stretches)
            told = Told(Firsts(size, k), notes, world)
            rest = [x for x in range(size) if x not in told.lot]
            least, most = min(key(world, f) for f in rest), max(key(world, e) for e in told.lot)
            forced = [e for e in told.lot if key(notes.highs, e) > least]
            forced += [f for f in rest if key(notes.lows, f) < most]
            self.assertEqual(told.forced, tuple(sorted(forced)))
            fronts = sorted([key(notes.highs, e) for e in told.lot if e not in forced], reverse=True)
            backs = sorted(key(notes.lows, f) for f in rest if f not in forced)
            fitting = [
                m for m in range(min(len(fronts), len(backs)) + 1)
                if all(fronts[m - i] > backs[i - 1] for i in range(1, m + 1))
            ]
            self.assertEqual(len(told.row), max(fitting))


class ShapesTest(unittest.TestCase):
    def test_sums(self):
        small = [asking.case for asking in OPEN if asking.case.known.size <= 4][::7]
        for one, other in zip(small, small[1:]):
            rule, notes = Sum(one.rule, other.rule), one.notes + other.notes
            for world, second in zip(one.worlds[::9], other.worlds[::7]):
                first, last = Told(one.rule, one.notes, world), Told(other.rule, other.notes, second)
                whole = Told(rule, notes, world + second)
                moved = tuple(x + one.known.size for x in last.paper)
                self.assertEqual(whole.fewest, first.fewest + last.fewest)
                self.assertIs(whole.shows(first.paper + moved), True)
                self.assertIs(whole.shows(first.paper), last.fewest == 0)
                self.assertIs(whole.shows(moved), first.fewest == 0)

    def test_turned(self):
        for asking, world, told in told_worlds(ASKINGS, 6):
            case = asking.case
            size = case.known.size
            turned = Told(Turned(case.rule), ~case.notes, turned_world(world))
            self.assertEqual(turned.fewest, told.fewest)
            self.assertEqual(turned.lean_papers(), sorted(turned_of(size, one) for one in told.lean_papers()))
            for things in asking.sets:
                self.assertIs(turned.shows(turned_of(size, things)), told.shows(things))
        for asking in OPEN:
            case = asking.case
            for call in (pressing, useful):
                found = call(Turned(case.rule), ~case.notes)
                self.assertEqual(found, turned_of(case.known.size, call(case.rule, case.notes)))

    def test_the_smaller_rule(self):
        for asking, world, told in told_worlds(ASKINGS, 6):
            case = asking.case
            smaller, ins, outs = kernel(case.rule, case.notes)
            less = Told(smaller, case.notes, world)
            self.assertEqual(less.lean_papers(), told.lean_papers())
            for one in told.lean_papers():
                self.assertFalse(set(one) & {*ins, *outs})

    def test_without_a_thing_and_with_it_drawn_in(self):
        # Point 133: each paper, taken without the thing, is a paper of the rule behind its loss, or with it drawn in.
        fewer = 0
        for asking, world, told in told_worlds(OPEN, 6):
            case = asking.case
            for x in case.meaning.all:
                shape = Drawn if x in told.lot else Less
                after = Told(shape(case.rule, (x,)), case.notes, world)
                self.assertLessEqual(after.fewest, told.fewest)
                fewer += after.fewest < told.fewest
                for things in asking.papers(world):
                    self.assertIs(after.shows(tuple(y for y in things if y != x)), True)
        self.assertGreater(fewer, 100)


class WideTest(unittest.TestCase):
    def test_sixteen_things(self):
        for place, rule in enumerate(WIDE_RULES + DEEP_RULES[::3]):
            notes = wide_notes(rule.size, place, 0)
            for world in (notes.lows, notes.highs, notes.latest(place % rule.size)):
                told = Told(rule, notes, world)
                self.assertEqual(told.lot, lot_of(rule, world))
                self.assertEqual(told.fewest, len(told.forced) + len(told.row))
                self.assertIs(told.shows(told.paper), True)
                self.assertEqual(sure_lot(rule, notes.after(told.paper, world)), told.lot)
                for x in told.paper:
                    less = tuple(y for y in told.paper if y != x)
                    self.assertIs(told.shows(less), False)
                    first, second = told.two_worlds(less)
                    self.assertTrue(notes.after(less, world).agrees(second))
                    self.assertNotEqual(lot_of(rule, second), lot_of(rule, first))
                for x in told.forced:
                    self.assertIs(is_due(rule, notes, world, x), True)
