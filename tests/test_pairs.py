"""Points 102 to 104, 113 and 116: the low pair, the high pair, steps."""

import unittest

from tests.asking import ASKINGS, COMPARED, NET, NOTES, OPEN, SMALL
from tests.kinds import DEEP_RULES, WIDE_RULES
from tests.knowing import key
from tests.meaning import raised, turned_of
from tests.test_surelots import wide_notes
from unseenprices.counting import Firsts
from unseenprices.dues import pressing, useful
from unseenprices.judging import verdict
from unseenprices.notes import Notes
from unseenprices.pairs import high_pair, low_pair, step
from unseenprices.rules import Rule
from unseenprices.sets import TOP
from unseenprices.sums import Sum
from unseenprices.surelots import sure_lot
from unseenprices.turned import Turned

CALLS = (low_pair, high_pair, step)


def told_low_pair(case):
    """Return the low pair as point 102 words it, from the lots and circuits of the rule."""
    notes, lot = case.notes, case.finder.lot(case.notes.lows)
    for f in case.meaning.all:
        if f not in lot and f not in case.meaning.dead():
            circuit = [x for x in case.meaning.circuit(lot, f) if x != f]
            e = max(circuit, key=lambda x: key(notes.highs, x))
            if key(notes.highs, e) > key(notes.lows, f):
                return (e, f)
    return None


def told_high_pair(case):
    """Return the high pair as point 103 words it."""
    notes, lot = case.notes, case.finder.lot(case.notes.highs)
    for e in lot[::-1]:
        if e not in case.meaning.firm():
            others = [x for x in case.meaning.blow_of(lot, e) if x != e]
            f = min(others, key=lambda x: key(notes.lows, x))
            if key(notes.lows, f) < key(notes.highs, e):
                return (e, f)
    return None


class PairsTest(unittest.TestCase):
    def test_every_small_rule(self):
        for asking in ASKINGS:
            case = asking.case
            low, high = low_pair(case.rule, case.notes), high_pair(case.rule, case.notes)
            self.assertEqual([low, high], [told_low_pair(case), told_high_pair(case)])
            sure = len(case.possible()) == 1
            self.assertEqual([low is None, high is None], [sure, sure])

    def test_every_paper_has_one_of_the_two(self):
        for asking in OPEN:
            case = asking.case
            low, high = low_pair(case.rule, case.notes), high_pair(case.rule, case.notes)
            self.assertIn(low[0], asking.unseen)
            self.assertIn(high[1], asking.unseen)
            for world in case.worlds[::4]:
                for things in asking.papers(world):
                    self.assertTrue({*things} & {*low})
                    self.assertTrue({*things} & {*high})

    def test_turned(self):
        for asking in ASKINGS[::2]:
            case = asking.case
            found = high_pair(case.rule, case.notes)
            last = case.known.size - 1
            turned = None if found is None else (last - found[1], last - found[0])
            self.assertEqual(low_pair(Turned(case.rule), ~case.notes), turned)

    def test_examples(self):
        self.assertEqual([low_pair(NET, NOTES), high_pair(NET, NOTES), step(NET, NOTES)], [(0, 2), (4, 3), (3,)])
        two = Firsts(2, 1)
        self.assertEqual([call(two, Notes(((0, 4), (4, 9)))) for call in CALLS], [None, None, ()])
        self.assertEqual([call(two, Notes(((0, 5), (4, 9)))) for call in CALLS], [(0, 1), (0, 1), (0, 1)])
        self.assertEqual([call(two, Notes(((4, 9), (0, 4)))) for call in CALLS], [(1, 0), (1, 0), (0, 1)])
        self.assertEqual([call(two, Notes.unknown(2)) for call in CALLS], [(0, 1), (0, 1), (0, 1)])
        # A seen thing may be in the low pair, if the other one is pressing.
        notes = Notes(((0, TOP), (5, 5)))
        self.assertEqual([low_pair(two, notes), high_pair(two, notes), step(two, notes)], [(0, 1), (1, 0), (0,)])
        for rule, notes in ((Rule(0), Notes(())), (Rule(2), Notes.unknown(2)), (Firsts(2, 0), Notes.unknown(2))):
            self.assertEqual([call(rule, notes) for call in CALLS], [None, None, ()])

    def test_errors_in_order(self):
        for call in CALLS:
            self.assertEqual(raised(call, NET, COMPARED), ("NotPlain", {}))
            self.assertEqual(raised(call, SMALL, COMPARED), ("OtherSize", {"size": 5}))


class StepTest(unittest.TestCase):
    def test_every_small_rule(self):
        sizes = []
        for asking in ASKINGS:
            case = asking.case
            lows, highs = case.finder.lot(case.notes.lows), case.finder.lot(case.notes.highs)
            press = [x for x in lows if x not in highs]
            found = step(case.rule, case.notes)
            if press:
                told = (press[0],)
            else:
                told = tuple(sorted(told_low_pair(case) or ()))
            self.assertEqual(found, told)
            self.assertLessEqual({*found}, {*asking.unseen})
            sizes.append(len(found))
        self.assertGreater(min(sizes.count(many) for many in range(3)), 50)

    def test_sums(self):
        # Point 116: the step of a sum is the step of one of its rules.
        small = [asking.case for asking in ASKINGS if asking.case.known.size <= 4][::5]
        for one, other in zip(small, small[1:]):
            found = step(Sum(one.rule, other.rule), one.notes + other.notes)
            second = tuple(x + one.known.size for x in step(other.rule, other.notes))
            self.assertIn(found, (step(one.rule, one.notes), second))
            self.assertEqual(found == (), step(one.rule, one.notes) == second == ())

    def test_the_rule_of_point_113(self):
        rule, notes = Firsts(4, 2), Notes(((0, 10), (5, 15), (9, 20), (14, 25)))
        self.assertEqual([useful(rule, notes), pressing(rule, notes), step(rule, notes)], [(0, 1, 2, 3), (), (1, 2)])
        for price in range(5, 16):
            more = notes.ask(1, price)
            rest = (0, 2) if price <= 14 else (2, 3)
            self.assertEqual(verdict(rule, more, 3 if price <= 14 else 0), "out" if price <= 14 else "in")
            self.assertLessEqual({*useful(rule, more)}, {*rest})
            for world in (more.lows, more.highs, more.latest(rest[0]), more.latest(rest[1])):
                self.assertIsNotNone(sure_lot(rule, more.after(rest, world)))

    def test_sixteen_things(self):
        for place, rule in enumerate(WIDE_RULES + DEEP_RULES[::3]):
            notes = wide_notes(rule.size, place, 0)
            low, high = low_pair(rule, notes), high_pair(rule, notes)
            sure = sure_lot(rule, notes) is not None
            self.assertEqual([low is None, high is None, step(rule, notes) == ()], [sure] * 3)
            found = low_pair(Turned(rule), ~notes)
            self.assertEqual(found and turned_of(rule.size, found), high and tuple(sorted(high)))
