"""Points 51, 55 and 61: verdicts on things."""

import random
import unittest

from tests.cases import CASES
from tests.kinds import DEEP_RULES, WIDE_RULES
from tests.meaning import raised
from tests.refusals import refuses_things
from tests.test_surelots import wide_notes
from unseenprices.choosing import lot_of
from unseenprices.connected import parts
from unseenprices.counting import Firsts
from unseenprices.judging import verdict, verdicts, world_with, world_without
from unseenprices.nets import Net
from unseenprices.notes import Notes
from unseenprices.rules import Rule
from unseenprices.sets import TOP, minus
from unseenprices.shapes import Less
from unseenprices.sums import Sum
from unseenprices.surelots import sure_lot

NET = Net(4, ((0, 1), (1, 2), (0, 2), (2, 3), (2, 3)))
NOTES = Notes(((1, 4), (2, 2), (3, 6), (0, 5), (4, 4)))


class VerdictTest(unittest.TestCase):
    def test_every_small_rule(self):
        for case in CASES:
            told = [case.judged(x) for x in case.meaning.all]
            self.assertEqual(verdicts(case.rule, case.notes), told)
            self.assertEqual([verdict(case.rule, case.notes, x) for x in case.meaning.all], told)
            self.assertEqual("unsettled" not in told, sure_lot(case.rule, case.notes) is not None)

    def test_some_thing_of_the_lot_and_some_other_are_unsettled(self):
        for case in CASES:
            if len(case.possible()) > 1:
                lot = case.finder.lot(case.notes.lows)
                inside = [x in lot for x in case.meaning.all if case.judged(x) == "unsettled"]
                self.assertEqual([True in inside, False in inside], [True, True])

    def test_examples(self):
        self.assertEqual(verdicts(NET, NOTES), ["unsettled", "in", "unsettled", "unsettled", "unsettled"])
        self.assertEqual([verdicts(Rule(0), Notes(())), verdicts(Rule(2), Notes.unknown(2))], [[], ["in", "in"]])
        self.assertEqual(verdicts(Firsts(2, 0), Notes.unknown(2)), ["out", "out"])
        self.assertEqual(verdicts(Firsts(3, 1), Notes.unknown(3)), ["unsettled"] * 3)
        self.assertEqual(verdicts(Firsts(3, 1), Notes.unknown(3, pairs=((2, 0),))), ["out", "unsettled", "unsettled"])
        self.assertEqual(verdicts(Firsts(2, 1), Notes(((0, 3), (3, TOP)))), ["in", "out"])
        self.assertEqual(verdicts(Firsts(2, 1), Notes(((3, TOP), (0, 3)))), ["unsettled", "unsettled"])

    def test_new_lists(self):
        verdicts(NET, NOTES).append(None)
        self.assertEqual(len(verdicts(NET, NOTES)), 5)

    def test_part_by_part(self):
        for place, rule in enumerate(WIDE_RULES + DEEP_RULES[::2]):
            notes = wide_notes(rule.size, place, 0 if place % 2 else 20)
            told = verdicts(rule, notes)
            for part in parts(rule):
                alone = Less(rule, minus(range(rule.size), part))
                self.assertEqual([verdict(alone, notes, x) for x in part], [told[x] for x in part])

    def test_sums(self):
        small = [case for case in CASES if case.meaning.size <= 4][::30]
        for one, other in zip(small, small[1:]):
            told = verdicts(Sum(one.rule, other.rule), one.notes + other.notes)
            self.assertEqual(told, verdicts(one.rule, one.notes) + verdicts(other.rule, other.notes))

    def test_errors_in_order(self):
        for call in (verdict, world_with, world_without):
            for notes in (NOTES, Notes.unknown(5, pairs=((0, 1),))):
                refuses_things(self, 5, lambda thing: call(NET, notes, thing))
            for size in (0, 4, 6):
                self.assertEqual(raised(call, NET, Notes.unknown(size), None), ("OtherSize", {"size": size}))
                self.assertEqual(raised(verdicts, NET, Notes.unknown(size)), ("OtherSize", {"size": size}))


class WorldsOfThingsTest(unittest.TestCase):
    def test_every_small_rule(self):
        for case in CASES:
            for x in case.meaning.all:
                having, lacking = world_with(case.rule, case.notes, x), world_without(case.rule, case.notes, x)
                told = case.judged(x)
                self.assertEqual([having is None, lacking is None], [told == "out", told == "in"])
                if having is not None:
                    self.assertEqual(having, case.notes.earliest(x))
                    self.assertIn(x, case.found[case.worlds.index(having)])
                if lacking is not None:
                    self.assertEqual(lacking, case.notes.latest(x))
                    self.assertNotIn(x, case.found[case.worlds.index(lacking)])

    def test_wide(self):
        chance = random.Random(81)
        for place, rule in enumerate(WIDE_RULES + DEEP_RULES[::2]):
            notes = wide_notes(rule.size, place, (0, 30, 60)[place % 3])
            told = verdicts(rule, notes)
            seen = [lot_of(rule, notes.latest(x)) for x in range(rule.size)]
            seen += [lot_of(rule, notes.earliest(x)) for x in range(rule.size)]
            seen += [lot_of(rule, notes.lows), lot_of(rule, notes.highs)]
            for x in chance.sample(range(rule.size), 5):
                having = [x in lot for lot in seen]
                self.assertEqual(told[x], "in" if all(having) else "unsettled" if any(having) else "out")
