"""Points 81 to 89: forced things, what is due, pressing, idle and wavering things, near worlds."""

import unittest

from tests.cases import PLAIN_CASES
from tests.kinds import DEEP_RULES, WIDE_RULES
from tests.knowing import key
from tests.meaning import raised
from tests.refusals import refuses_things, refuses_worlds
from tests.test_critical import unsettled_by
from tests.test_surelots import wide_notes
from unseenprices.choosing import critical_key, lot_of
from unseenprices.counting import Firsts
from unseenprices.dues import (
    ask_verdict, due_world, forced_things, is_due, near, pressing, spare_world, useful,
)
from unseenprices.judging import verdict
from unseenprices.nets import Net
from unseenprices.notes import Notes
from unseenprices.rules import Rule
from unseenprices.sets import TOP
from unseenprices.surelots import sure_lot

NET = Net(4, [(0, 1), (1, 2), (0, 2), (2, 3), (2, 3)])
NOTES = Notes([(1, 4), (2, 2), (3, 6), (0, 5), (4, 4)])
COMPARED = Notes.unknown(5, pairs=((0, 1),))
WORLD = (2, 2, 5, 1, 4)


def dues(case):
    """Return for each agreeing world the set of the due things, as the first words of point 84 tell it."""
    found = []
    for world in case.worlds:
        due = []
        for x in case.notes.unseen():
            if len({case.found[place] for place in unsettled_by(case, world, x)}) > 1:
                due.append(x)
        found.append(tuple(due))
    return found


DUES = [(case, dues(case)) for case in PLAIN_CASES]


class NearTest(unittest.TestCase):
    def test_every_small_one(self):
        for case in PLAIN_CASES:
            for x in case.notes.unseen():
                low = case.known.stretches[x][0]
                told = []
                for y, (least, most) in enumerate(case.known.stretches):
                    goal = low + 1 if y < x else low
                    told.append(low if y == x else min(range(least, most + 1), key=lambda price: abs(price - goal)))
                found = near(case.notes, x)
                self.assertEqual(found, tuple(told))
                ahead = tuple(y for y in case.meaning.all if key(found, y) < (low, x))
                self.assertEqual(ahead, case.notes.must_precede(x))
                high = case.known.stretches[x][1]
                maybe = tuple(y for y in case.meaning.all if y != x and key(found, y) < (high, x))
                self.assertEqual(maybe, case.notes.may_precede(x))

    def test_examples(self):
        self.assertEqual(near(NOTES, 2), (4, 2, 3, 3, 4))
        self.assertEqual([near(NOTES, 0), near(NOTES, 3)], [(1, 2, 3, 1, 4), (1, 2, 3, 0, 4)])
        self.assertEqual(near(Notes(((TOP - 1, TOP),) * 3), 1), (TOP, TOP - 1, TOP - 1))

    def test_errors_in_order(self):
        refuses_things(self, 5, lambda thing: near(NOTES, thing))
        for thing in (1, 4):
            self.assertEqual(raised(near, NOTES, thing), ("IsSeen", {"thing": thing}))
        for thing in (0, 9, None):
            self.assertEqual(raised(near, COMPARED, thing), ("NotPlain", {}))


class ForcedTest(unittest.TestCase):
    def test_every_small_rule(self):
        many = 0
        for case, rows in DUES:
            for world, due in zip(case.worlds, rows):
                self.assertEqual(forced_things(case.rule, case.notes, list(world)), due)
                many += len(due) > 1
        self.assertGreater(many, 500)

    def test_as_point_82_words_it(self):
        for case, rows in DUES:
            for world, due, lot in list(zip(case.worlds, rows, case.found))[::7]:
                found = []
                for e, f in case.finder.exchanges[lot]:
                    found += [e] if key(world, f) < (case.notes.highs[e], e) else []
                    found += [f] if (case.notes.lows[f], f) < key(world, e) else []
                self.assertEqual(due, tuple(sorted(set(found))))

    def test_the_other_words_of_point_84(self):
        for case, rows in DUES:
            for world, due in list(zip(case.worlds, rows))[::7]:
                for x in case.notes.unseen():
                    low, high = case.known.stretches[x]
                    critical = critical_key(case.rule, world, x)
                    between = bool(critical) and (low, x) < critical < (high, x)
                    lots = [lot_of(case.rule, (*world[:x], price, *world[x + 1:])) for price in (low, high)]
                    self.assertEqual([between, lots[0] != lots[1]], [x in due, x in due])

    def test_is_due(self):
        for case, rows in DUES:
            for world, due in list(zip(case.worlds, rows))[::5]:
                for x in case.meaning.all:
                    self.assertIs(is_due(case.rule, case.notes, list(world), x), x in due)

    def test_first_k(self):
        # Point 87 tells the forced things under Firsts by the least key outside and the greatest key inside.
        for size, k in ((3, 1), (4, 2), (5, 2), (5, 4)):
            notes = Notes([((x * 5) % 7, (x * 5) % 7 + (x * 3) % 5) for x in range(size)])
            for world in (notes.lows, notes.highs, notes.latest(0), notes.latest(size - 1), notes.earliest(1)):
                lot = lot_of(Firsts(size, k), world)
                least = min(key(world, f) for f in range(size) if f not in lot)
                most = max(key(world, e) for e in lot)
                told = tuple(
                    x for x in range(size)
                    if (x in lot and (notes.highs[x], x) > least) or (x not in lot and (notes.lows[x], x) < most)
                )
                self.assertEqual(forced_things(Firsts(size, k), notes, world), told)

    def test_examples(self):
        self.assertEqual(forced_things(NET, NOTES, WORLD), (3,))
        self.assertEqual([is_due(NET, NOTES, WORLD, x) for x in range(5)], [False, False, False, True, False])
        self.assertEqual(forced_things(Rule(0), Notes(()), ()), ())
        self.assertEqual(forced_things(Rule(2), Notes.unknown(2), (0, TOP)), ())
        self.assertEqual(forced_things(Firsts(2, 0), Notes.unknown(2), (0, TOP)), ())
        self.assertEqual(forced_things(Firsts(2, 1), Notes(((0, 4), (4, 9))), (4, 4)), ())
        self.assertEqual(forced_things(Firsts(2, 1), Notes(((3, 9), (0, 4))), (4, 3)), (0, 1))

    def test_errors_in_order(self):
        for call in (lambda *row: forced_things(*row), lambda *row: is_due(*row, 9)):
            refuses_worlds(self, 5, lambda world: call(NET, NOTES, world))
            self.assertEqual(raised(call, NET, NOTES, [0, 2, 9, 1, 4]), ("NotAgreeing", {"thing": 0}))
            self.assertEqual(raised(call, NET, NOTES, [1, 2, 9, 1, 5]), ("NotAgreeing", {"thing": 2}))
            self.assertEqual(raised(call, NET, COMPARED, None), ("NotPlain", {}))
            self.assertEqual(raised(call, Firsts(3, 1), COMPARED, None), ("OtherSize", {"size": 5}))
        refuses_things(self, 5, lambda thing: is_due(NET, NOTES, WORLD, thing))


class VerdictsTest(unittest.TestCase):
    def told(self, case, rows, x):
        having = [x in due for due in rows]
        return "pressing" if all(having) else "wavers" if any(having) else "idle"

    def test_every_small_rule(self):
        some = []
        for case, rows in DUES:
            words = [self.told(case, rows, x) for x in case.meaning.all]
            self.assertEqual([ask_verdict(case.rule, case.notes, x) for x in case.meaning.all], words)
            press = tuple(x for x in case.meaning.all if words[x] == "pressing")
            self.assertEqual(pressing(case.rule, case.notes), press)
            self.assertEqual(useful(case.rule, case.notes), tuple(x for x in case.meaning.all if words[x] != "idle"))
            self.assertEqual(set(words) <= {"idle"}, sure_lot(case.rule, case.notes) is not None)
            some += words
        self.assertGreater(min(some.count(word) for word in ("pressing", "wavers", "idle")), 50)

    def test_worlds(self):
        for case, rows in DUES:
            for x in case.meaning.all:
                word = self.told(case, rows, x)
                found = due_world(case.rule, case.notes, x)
                if word == "idle":
                    self.assertIsNone(found)
                else:
                    self.assertEqual(found, near(case.notes, x))
                    self.assertIn(x, rows[case.worlds.index(found)])
                spare = spare_world(case.rule, case.notes, x)
                fitting = [one for one in (case.notes.lows, case.notes.highs) if x not in rows[case.worlds.index(one)]]
                self.assertEqual(spare, fitting[0] if fitting else None)
                self.assertEqual(spare is None, word == "pressing")

    def test_examples(self):
        self.assertEqual([pressing(NET, NOTES), useful(NET, NOTES)], [(3,), (0, 2, 3)])
        words = [ask_verdict(NET, NOTES, x) for x in range(5)]
        self.assertEqual(words, ["wavers", "idle", "wavers", "pressing", "idle"])
        self.assertEqual([due_world(NET, NOTES, 1), due_world(NET, NOTES, 2)], [None, (4, 2, 3, 3, 4)])
        self.assertEqual([spare_world(NET, NOTES, x) for x in (0, 3, 1)], [NOTES.highs, None, NOTES.lows])
        self.assertEqual([pressing(Rule(0), Notes(())), useful(Rule(0), Notes(()))], [(), ()])
        wide = Notes.unknown(2)
        self.assertEqual([useful(Rule(2), wide), useful(Firsts(2, 0), wide)], [(), ()])
        self.assertEqual(useful(Firsts(2, 1), wide), (0, 1))

    def test_errors_in_order(self):
        for call in (ask_verdict, due_world, spare_world):
            refuses_things(self, 5, lambda thing: call(NET, NOTES, thing))
            self.assertEqual(raised(call, NET, COMPARED, None), ("NotPlain", {}))
            self.assertEqual(raised(call, Firsts(3, 1), COMPARED, None), ("OtherSize", {"size": 5}))
        for call in (pressing, useful):
            self.assertEqual(raised(call, NET, COMPARED), ("NotPlain", {}))
            self.assertEqual(raised(call, Firsts(3, 1), COMPARED), ("OtherSize", {"size": 5}))

    def test_wide(self):
        for place, rule in enumerate(WIDE_RULES + DEEP_RULES[::3]):
            notes = wide_notes(rule.size, place, 0)
            press, use = pressing(rule, notes), useful(rule, notes)
            self.assertTrue(set(press) <= set(use))
            for x in range(0, rule.size, 3):
                word = ask_verdict(rule, notes, x)
                self.assertEqual([x in press, x in use], [word == "pressing", word != "idle"])
                self.assertEqual(x in use, notes.unseen().count(x) == 1 and verdict(rule, notes, x) == "unsettled")
                found = due_world(rule, notes, x)
                if found is not None:
                    self.assertTrue(is_due(rule, notes, found, x))
                spare = spare_world(rule, notes, x)
                if spare is not None:
                    self.assertNotIn(x, forced_things(rule, notes, spare))
