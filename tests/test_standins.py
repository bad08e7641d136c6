"""Points 119, 123 to 125 and 127: what is left behind a loss, and what comes."""

import random
import unittest
from itertools import permutations

from tests.asking import ASKINGS, COMPARED, NET, NOTES, OPEN, SMALL, WORLD, lean
from tests.cases import CASES
from tests.kinds import DEEP_RULES, SMALL_RULES, WIDE_RULES
from tests.knowing import key
from tests.meaning import raised, with_things, without_things
from tests.refusals import no_things, refuses_sets, refuses_things, refuses_worlds
from tests.test_blows import blows_of
from tests.test_surelots import wide_notes
from unseenprices.choosing import critical_key, lot_of
from unseenprices.counting import Firsts
from unseenprices.dues import useful
from unseenprices.judging import verdict
from unseenprices.nets import pieces
from unseenprices.notes import Notes
from unseenprices.rules import Rule
from unseenprices.sets import TOP
from unseenprices.shapes import Less
from unseenprices.standins import comes, lot_left, may_come, must_come, trail
from unseenprices.sums import Sum
from unseenprices.surelots import sure_lot


def left_of(meaning, world, things):
    """Return the lot of the world behind the loss, found among all lots that it leaves; None if it is a blow."""
    rows = [sorted(key(world, x) for x in lot) for lot in meaning.lots if not {*lot} & {*things}]
    return tuple(sorted(x for _, x in min(rows))) if rows else None


def some_worlds(size, many):
    """Return worlds of so many things, with equal prices, with the ends, and with different ones."""
    chance = random.Random(size)
    found = [(0,) * size, (TOP,) * size]
    found += [tuple(chance.choice((0, 3, 3, 7, TOP)) for _ in range(size)) for _ in range(many)]
    return found + [tuple(chance.sample(range(size), size)) for _ in range(many)]


class LeftTest(unittest.TestCase):
    def test_every_set(self):
        for rule, meaning in SMALL_RULES[::2]:
            for world in some_worlds(meaning.size, 2):
                for things in meaning.sets:
                    told = left_of(meaning, world, things)
                    if told is None:
                        wrong = ("IsBlow", {"things": things})
                        self.assertEqual(raised(lot_left, rule, world, list(things)), wrong)
                    else:
                        self.assertEqual(lot_left(rule, list(world), list(things)), told)

    def test_what_stays(self):
        # Point 123, for losses that are blows as well.
        for rule, meaning in SMALL_RULES[::3]:
            for world in some_worlds(meaning.size, 1):
                lot = lot_of(rule, world)
                for things in meaning.sets[::2]:
                    left = lot_of(Less(rule, things), world)
                    self.assertLessEqual({*lot} - {*things}, {*left})
                    if left_of(meaning, world, things) is not None:
                        self.assertEqual(len({*left} - {*lot}), len({*things} & {*lot}))

    def test_in_and_out(self):
        for case in CASES[::4]:
            outs = tuple(x for x in case.meaning.all if case.judged(x) == "out")
            for world, lot in list(zip(case.worlds, case.found))[::9]:
                self.assertEqual(lot_left(case.rule, world, outs), lot)
            for x in case.meaning.all:
                if case.judged(x) == "in":
                    others = without_things(case.meaning.all, (x,))
                    for things in (others, others[::2], others[:1]):
                        self.assertEqual(verdict(Less(case.rule, things), case.notes, x), "in")

    def test_examples(self):
        self.assertEqual([lot_left(NET, WORLD, (0,)), lot_left(NET, WORLD, ())], [(1, 2, 3), (0, 1, 3)])
        self.assertEqual(raised(lot_left, Firsts(3, 2), (5, 5, 1), (0, 2)), ("IsBlow", {"things": (0, 2)}))
        self.assertEqual(lot_left(Rule(0), (), ()), ())
        self.assertEqual(lot_left(Firsts(3, 0), (1, 2, 3), (0, 1, 2)), ())

    def test_errors_in_order(self):
        refuses_worlds(self, 5, lambda world: lot_left(NET, world, (9,)))
        refuses_sets(self, 5, lambda things: lot_left(NET, WORLD, things))
        self.assertEqual(raised(lot_left, NET, WORLD, [3, 4]), ("IsBlow", {"things": (3, 4)}))


class ComesTest(unittest.TestCase):
    def test_every_thing(self):
        for rule, meaning in SMALL_RULES:
            for world in some_worlds(meaning.size, 2):
                lot = left_of(meaning, world, ())
                for x in meaning.all:
                    if x in meaning.firm():
                        self.assertEqual(raised(comes, rule, world, x), ("IsBlow", {"things": (x,)}))
                    elif x in lot:
                        found = comes(rule, list(world), x)
                        left = left_of(meaning, world, (x,))
                        self.assertEqual(left, with_things(without_things(lot, (x,)), (found,)))
                        self.assertEqual(key(world, found), critical_key(rule, world, x))
                        others = without_things(meaning.blow_of(lot, x), (x,))
                        self.assertEqual(found, min(others, key=lambda y: key(world, y)))
                    else:
                        self.assertIsNone(comes(rule, world, x))
                        self.assertEqual(left_of(meaning, world, (x,)), lot)

    def test_in_a_net(self):
        for world in (WORLD, (0, 0, 0, 0, 0), (5, 4, 3, 2, 1)):
            lot = lot_of(NET, world)
            for x in lot:
                found = pieces(NET, without_things(lot, (x,)))
                home = {point: place for place, row in enumerate(found) for point in row}
                row = sorted(range(5), key=lambda y: key(world, y))
                crossing = [y for y in row if y != x and home[NET.lines[y][0]] != home[NET.lines[y][1]]]
                self.assertEqual(comes(NET, world, x), crossing[0])

    def test_examples(self):
        self.assertEqual([comes(NET, WORLD, x) for x in range(5)], [2, 2, None, 4, None])
        rule = Sum(Rule(1), Sum(Firsts(1, 0), Firsts(2, 1)))
        self.assertEqual([comes(rule, (0, 0, 5, 5), x) for x in (1, 2, 3)], [None, 3, None])
        self.assertEqual(raised(comes, rule, (0, 0, 5, 5), 0), ("IsBlow", {"things": (0,)}))

    def test_errors_in_order(self):
        refuses_worlds(self, 5, lambda world: comes(NET, world, 9))
        refuses_things(self, 5, lambda thing: comes(NET, WORLD, thing))


class TrailTest(unittest.TestCase):
    def test_every_order(self):
        for rule, meaning in SMALL_RULES[::4]:
            world = some_worlds(meaning.size, 1)[-1]
            for things in meaning.sets:
                if left_of(meaning, world, things) is not None and len(things) <= 4:
                    for row in permutations(things):
                        self.check(rule, meaning, world, row)

    def check(self, rule, meaning, world, row):
        """Hold the trail of a row against the lots left behind its beginnings."""
        told = []
        for place, x in enumerate(row):
            lot = left_of(meaning, world, row[:place])
            after = left_of(meaning, world, row[:place + 1])
            coming = without_things(after, lot)
            told.append((x, coming[0] if x in lot else None))
            self.assertEqual(after, with_things(without_things(lot, (x,)), coming))
        self.assertEqual(trail(rule, list(world), list(row)), told)

    def test_blows(self):
        for rule, meaning in SMALL_RULES[::5]:
            world = some_worlds(meaning.size, 0)[0]
            for things in blows_of(meaning):
                wrong = ("IsBlow", {"things": things})
                self.assertEqual(raised(trail, rule, world, things[::-1]), wrong)
                self.assertEqual(raised(trail, rule, world, [*things]), wrong)

    def test_examples(self):
        self.assertEqual(trail(NET, WORLD, ()), [])
        self.assertEqual(trail(NET, WORLD, (3, 0)), [(3, 4), (0, 2)])
        # What came before may get lost, too.
        self.assertEqual(trail(Firsts(4, 1), (0, 1, 2, 3), (0, 1, 3)), [(0, 1), (1, 2), (3, None)])
        self.assertEqual(trail(Firsts(4, 1), (0, 1, 2, 3), [3, 1, 0]), [(3, None), (1, None), (0, 2)])
        self.assertEqual(trail(Firsts(3, 0), (0, 1, 2), (2, 0, 1)), [(2, None), (0, None), (1, None)])

    def test_errors_in_order(self):
        refuses_worlds(self, 5, lambda world: trail(NET, world, (9,)))
        for wrong in no_things(5):
            self.assertEqual(raised(trail, NET, WORLD, (wrong, 9)), ("BadThing", {"thing": wrong}))
            self.assertEqual(raised(trail, NET, WORLD, [3, 4, wrong, 3]), ("BadThing", {"thing": wrong}))
        self.assertEqual(raised(trail, NET, WORLD, (3, 3)), ("Twice", {"place": 1}))
        self.assertEqual(raised(trail, NET, WORLD, [4, 2, 3, 2, 9]), ("Twice", {"place": 3}))
        self.assertEqual(raised(trail, NET, WORLD, [4, 1, 3]), ("IsBlow", {"things": (1, 3, 4)}))

    def test_lists_stay(self):
        row, world = [3, 0], list(WORLD)
        trail(NET, world, row).append(None)
        self.assertEqual([row, world, trail(NET, world, row)], [[3, 0], list(WORLD), [(3, 4), (0, 2)]])


class Sure:
    """Notes at which a lot is sure: those of a case, or those behind the asks of one of its papers."""

    def __init__(self, asking, world, things):
        self.rule, self.meaning = asking.case.rule, asking.case.meaning
        self.notes = asking.case.notes.after(things, world)
        self.worlds = [one for one in asking.case.worlds if all(one[x] == world[x] for x in things)]
        self.lot = asking.case.found[asking.case.worlds.index(world)]

    def comers(self, thing):
        """Return what comes for a thing of the lot in each agreeing world."""
        return [without_things(left_of(self.meaning, world, (thing,)), self.lot)[0] for world in self.worlds]


def sure_notes():
    """Return notes at which a lot is sure, behind every lean paper of some worlds."""
    found = []
    for asking in ASKINGS:
        for world in asking.case.worlds[::40]:
            found += [Sure(asking, world, things) for things in lean(asking.papers(world))]
    return found


SURE = sure_notes()


class WhoComesTest(unittest.TestCase):
    def test_where_a_lot_is_sure(self):
        several = 0
        for sure in SURE:
            for x in sure.meaning.all:
                if x in sure.meaning.firm():
                    for call in (may_come, must_come):
                        self.assertEqual(raised(call, sure.rule, sure.notes, x), ("IsBlow", {"things": (x,)}))
                    continue
                may, must = may_come(sure.rule, sure.notes, x), must_come(sure.rule, sure.notes, x)
                if x not in sure.lot:
                    self.assertEqual([may, must], [None, None])
                    continue
                found = tuple(sorted({*sure.comers(x)}))
                self.assertEqual([may, must], [found, found if len(found) == 1 else ()])
                several += len(found) > 1
        self.assertGreater(several, 150)

    def test_where_none_is_sure(self):
        for asking in OPEN:
            case = asking.case
            for x in case.meaning.all:
                for call in (may_come, must_come):
                    if x in case.meaning.firm():
                        self.assertEqual(raised(call, case.rule, case.notes, x), ("IsBlow", {"things": (x,)}))
                    else:
                        self.assertIsNone(call(case.rule, case.notes, x))

    def test_what_must_be_asked_then(self):
        # Point 127: behind the loss of x just the unseen things that may come, but need not, are to be asked.
        some = 0
        for sure in SURE[::2]:
            for x in without_things(sure.lot, sure.meaning.firm()):
                may, must = may_come(sure.rule, sure.notes, x), must_come(sure.rule, sure.notes, x)
                needed = tuple(y for y in may if y not in must and not sure.notes.seen(y))
                less = Less(sure.rule, (x,))
                self.assertEqual(useful(less, sure.notes), needed)
                some += len(needed) > 1
                for world in sure.worlds[::5]:
                    self.assertIsNotNone(sure_lot(less, sure.notes.after(needed, world)))
        self.assertGreater(some, 50)

    def test_examples(self):
        notes = Notes(((0, 1), (5, 8), (6, 9), (7, 7), (9, 9)))
        five = Firsts(5, 1)
        self.assertEqual([may_come(five, notes, 0), must_come(five, notes, 0)], [(1, 2, 3), ()])
        self.assertEqual([may_come(five, notes, 1), must_come(five, notes, 1)], [None, None])
        notes = Notes(((0, 1), (5, 5), (6, 9), (7, 7), (9, 9)))
        self.assertEqual([may_come(five, notes, 0), must_come(five, notes, 0)], [(1,), (1,)])
        self.assertEqual([may_come(NET, NOTES, 0), must_come(NET, NOTES, 0)], [None, None])
        # A firm thing is a blow, whether a lot is sure or not.
        rule = Sum(Rule(1), Firsts(2, 1))
        for notes in (Notes(((0, 0), (0, 9), (0, 9))), Notes(((0, 0), (0, 9), (9, 9)))):
            for call in (may_come, must_come):
                self.assertEqual(raised(call, rule, notes, 0), ("IsBlow", {"things": (0,)}))

    def test_errors_in_order(self):
        for call in (may_come, must_come):
            refuses_things(self, 5, lambda thing: call(NET, NOTES, thing))
            self.assertEqual(raised(call, NET, COMPARED, None), ("NotPlain", {}))
            self.assertEqual(raised(call, SMALL, COMPARED, None), ("OtherSize", {"size": 5}))


class WideTest(unittest.TestCase):
    def test_sixteen_things(self):
        for place, rule in enumerate(WIDE_RULES + DEEP_RULES[::4]):
            notes = wide_notes(rule.size, place, 0)
            world, lot = notes.lows, lot_of(rule, notes.lows)
            row, left = [], rule
            for x in lot[::-1] + (0, 5):
                if x not in row and x not in left.firm() and len(row) < 5:
                    row.append(x)
                    left = Less(rule, sorted(row))
            found = trail(rule, world, row)
            self.assertEqual([x for x, _ in found], row)
            coming = {y for _, y in found if y is not None}
            self.assertEqual(lot_left(rule, world, sorted(row)), tuple(sorted(({*lot} | coming) - {*row})))
            told = notes.after(range(rule.size), world)
            for x in row[:1]:
                coming = (comes(rule, world, x),) if x in lot else None
                self.assertEqual([may_come(rule, told, x), must_come(rule, told, x)], [coming, coming])
