"""Points 69 to 71: critical prices, the worth of things, and what counts."""

import unittest

from tests.cases import CASES, PLAIN_CASES, every_integer, price_in
from tests.kinds import DEEP_RULES, WIDE_RULES
from tests.meaning import raised
from tests.refusals import refuses_things, refuses_worlds
from tests.test_surelots import wide_notes
from unseenprices.choosing import critical_key
from unseenprices.counting import Firsts, Works
from unseenprices.critical import (
    counting_verdict, counts_in, critical_price, critical_reach, known, worth, worth_reach,
)
from unseenprices.equals import safe_lot
from unseenprices.nets import Net
from unseenprices.notes import Notes
from unseenprices.reaches import cheapest, price_reach
from unseenprices.rules import Rule
from unseenprices.sets import TOP
from unseenprices.shapes import Drawn, Less

NET = Net(4, [(0, 1), (1, 2), (0, 2), (2, 3), (2, 3)])
NOTES = Notes([(1, 4), (2, 2), (3, 6), (0, 5), (4, 4)])
# Thing 0 is firm, thing 1 dead, one of 2 and 3 is chosen.
BOTH_ENDS = Net(4, [(0, 1), (1, 1), (1, 2), (1, 2)])
COMPARED = Notes.unknown(4, pairs=((0, 1),))


def unsettled_by(case, world, thing):
    """Return the places of the worlds that are left behind asking all other unseen things in the world."""
    return [
        place for place, more in enumerate(case.worlds)
        if all(more[x] == world[x] for x in case.meaning.all if x != thing)
    ]


class CriticalPriceTest(unittest.TestCase):
    def test_every_small_rule(self):
        for case in CASES:
            dead, firm = case.meaning.dead(), case.meaning.firm()
            for world, row in list(zip(case.worlds, case.cheapest))[::9]:
                for x in case.meaning.all:
                    found = critical_price(case.rule, list(world), x)
                    self.assertEqual([found is None, found == -1], [x in firm, x in dead])
                    if x not in firm and x not in dead:
                        self.assertEqual(found, critical_key(case.rule, world, x)[0])
                    every, some = all(x in lot for lot in row), any(x in lot for lot in row)
                    self.assertEqual(every, found is None or world[x] < found)
                    self.assertEqual(some, found is None or world[x] <= found)

    def test_two_numbers(self):
        # If a thing is not dead, c is the lesser of its price and its critical price, and c with the thing drawn in.
        for case in CASES[::4]:
            for world in case.worlds[::20]:
                for x in case.meaning.all:
                    critical = critical_price(case.rule, world, x)
                    if critical != -1:
                        less = world[x] if critical is None else min(world[x], critical)
                        drawn = cheapest(Drawn(case.rule, (x,)), world)
                        self.assertEqual(cheapest(case.rule, world), less + drawn)

    def test_reach(self):
        for case in CASES:
            for x in case.meaning.all:
                if x in case.meaning.dead():
                    told = ("IsDead", {"thing": x})
                    self.assertEqual(raised(critical_reach, case.rule, case.notes, x), told)
                elif x in case.meaning.firm():
                    told = ("IsFirm", {"thing": x})
                    self.assertEqual(raised(critical_reach, case.rule, case.notes, x), told)
                else:
                    values = [critical_price(case.rule, world, x) for world in case.worlds]
                    every_integer(self, values, critical_reach(case.rule, case.notes, x))

    def test_examples(self):
        self.assertEqual(critical_reach(NET, NOTES, 0), (3, 6))
        self.assertEqual([critical_price(BOTH_ENDS, (5, 5, TOP, 0), x) for x in range(4)], [None, -1, 0, TOP])
        self.assertEqual(critical_reach(Firsts(2, 1), Notes.unknown(2), 0), (0, TOP))
        self.assertEqual(critical_reach(BOTH_ENDS, Notes.unknown(4, pairs=((3, 2),)), 2), (0, TOP - 1))

    def test_errors_in_order(self):
        refuses_worlds(self, 4, lambda world: critical_price(BOTH_ENDS, world, 9))
        refuses_things(self, 4, lambda thing: critical_price(BOTH_ENDS, (1,) * 4, thing))
        refuses_things(self, 4, lambda thing: critical_reach(BOTH_ENDS, COMPARED, thing))
        self.assertEqual(raised(critical_reach, BOTH_ENDS, Notes.unknown(3), None), ("OtherSize", {"size": 3}))
        self.assertEqual(raised(critical_reach, BOTH_ENDS, COMPARED, 0), ("IsFirm", {"thing": 0}))
        self.assertEqual(raised(critical_reach, BOTH_ENDS, COMPARED, 1), ("IsDead", {"thing": 1}))


class WorthTest(unittest.TestCase):
    def test_every_small_rule(self):
        for case in CASES:
            firm = case.meaning.firm()
            for world, row in list(zip(case.worlds, case.cheapest))[::9]:
                for x in case.meaning.all:
                    if x in firm:
                        told = ("IsFirm", {"thing": x})
                        self.assertEqual(raised(worth, case.rule, world, x), told)
                    else:
                        least = min(price_in(world, lot) for lot in case.meaning.lots if x not in lot)
                        found = worth(case.rule, list(world), x)
                        self.assertEqual(found, least - price_in(world, row[0]))
                        self.assertEqual(found >= 1, all(x in lot for lot in row))

    def test_the_rule_without_the_thing(self):
        for case in CASES[::20]:
            world = case.worlds[0]
            for x in case.meaning.all:
                if x not in case.meaning.firm():
                    more = cheapest(Less(case.rule, (x,)), world) - cheapest(case.rule, world)
                    self.assertEqual(worth(case.rule, world, x), more)

    def test_reach(self):
        for case in PLAIN_CASES:
            for x in case.meaning.all:
                if x in case.meaning.firm():
                    told = ("IsFirm", {"thing": x})
                    self.assertEqual(raised(worth_reach, case.rule, case.notes, x), told)
                else:
                    found = worth_reach(case.rule, case.notes, x)
                    every_integer(self, [worth(case.rule, world, x) for world in case.worlds], found)
                    if x in case.meaning.dead():
                        self.assertEqual(found, (0, 0))

    def test_examples(self):
        self.assertEqual([worth_reach(NET, NOTES, 0), worth(NET, (2, 2, 5, 1, 4), 0)], [(0, 5), 3])
        self.assertEqual([worth(BOTH_ENDS, (5, 0, 2, 9), x) for x in (1, 2, 3)], [0, 7, 0])
        self.assertEqual(worth_reach(BOTH_ENDS, Notes.unknown(4), 1), (0, 0))
        self.assertEqual(worth_reach(Firsts(2, 1), Notes.unknown(2), 1), (0, TOP))

    def test_errors_in_order(self):
        refuses_worlds(self, 4, lambda world: worth(BOTH_ENDS, world, 9))
        refuses_things(self, 4, lambda thing: worth(BOTH_ENDS, (1,) * 4, thing))
        self.assertEqual(raised(worth, BOTH_ENDS, (1,) * 4, 0), ("IsFirm", {"thing": 0}))
        refuses_things(self, 4, lambda thing: worth_reach(BOTH_ENDS, Notes.unknown(4), thing))
        self.assertEqual(raised(worth_reach, BOTH_ENDS, Notes.unknown(4), 0), ("IsFirm", {"thing": 0}))
        self.assertEqual(raised(worth_reach, BOTH_ENDS, COMPARED, 0), ("NotPlain", {}))
        self.assertEqual(raised(worth_reach, BOTH_ENDS, COMPARED, None), ("NotPlain", {}))
        self.assertEqual(raised(worth_reach, NET, COMPARED, None), ("OtherSize", {"size": 4}))


class KnownTest(unittest.TestCase):
    def test_every_small_rule(self):
        for case in PLAIN_CASES:
            self.assertIs(known(case.rule, case.notes), len(set(case.prices)) == 1)
            lot = safe_lot(case.rule, case.notes)
            if lot is not None:
                self.assertIs(known(case.rule, case.notes), all(case.notes.seen(x) for x in lot))

    def test_examples(self):
        self.assertIs(known(NET, NOTES), False)
        self.assertIs(known(NET, NOTES.after(range(5), (1, 2, 3, 0, 4))), True)
        self.assertIs(known(Firsts(2, 1), Notes(((3, 3), (3, 9)))), True)
        self.assertIs(known(Firsts(2, 1), Notes(((3, 3), (2, 9)))), False)
        self.assertIs(known(Firsts(2, 0), Notes.unknown(2)), True)
        self.assertIs(known(Rule(0), Notes(())), True)

    def test_errors_in_order(self):
        self.assertEqual(raised(known, BOTH_ENDS, COMPARED), ("NotPlain", {}))
        self.assertEqual(raised(known, NET, COMPARED), ("OtherSize", {"size": 4}))


class CountsTest(unittest.TestCase):
    def test_every_small_rule(self):
        for case in PLAIN_CASES:
            for x in case.meaning.all:
                told = []
                for world in case.worlds[::3]:
                    left = {case.prices[place] for place in unsettled_by(case, world, x)}
                    told.append(not case.notes.seen(x) and len(left) > 1)
                    self.assertIs(counts_in(case.rule, case.notes, list(world), x), told[-1])

    def test_verdicts(self):
        some = []
        for case in PLAIN_CASES:
            for x in case.meaning.all:
                told = [counts_in(case.rule, case.notes, world, x) for world in case.worlds]
                word = "always" if all(told) else "depends" if any(told) else "never"
                self.assertEqual(counting_verdict(case.rule, case.notes, x), word)
                some.append(word)
        self.assertEqual({*some}, {"always", "depends", "never"})

    def test_known_exactly_if_nothing_ever_counts(self):
        for case in PLAIN_CASES:
            told = [counting_verdict(case.rule, case.notes, x) for x in case.meaning.all]
            self.assertIs(known(case.rule, case.notes), told == ["never"] * case.known.size)

    def test_the_two_things_of_point_71(self):
        notes = Notes(((0, 1), (0, 1)))
        self.assertEqual([counts_in(Firsts(2, 1), notes, (0, 0), x) for x in range(2)], [False, False])
        self.assertEqual([known(Firsts(2, 1), notes), price_reach(Firsts(2, 1), notes)], [False, (0, 1)])
        self.assertEqual([counting_verdict(Firsts(2, 1), notes, x) for x in range(2)], ["depends", "depends"])

    def test_examples(self):
        self.assertEqual(counting_verdict(NET, NOTES, 2), "depends")
        self.assertEqual([counting_verdict(NET, NOTES, x) for x in (1, 4)], ["never", "never"])
        wide = Notes.unknown(4)
        self.assertEqual([counting_verdict(BOTH_ENDS, wide, x) for x in range(3)], ["always", "never", "depends"])
        self.assertEqual([counts_in(BOTH_ENDS, wide, (TOP,) * 4, x) for x in range(4)], [True, False, True, True])
        seen = Notes(((3, 3), (0, TOP)))
        self.assertEqual([counts_in(Rule(2), seen, (3, 0), 0), counts_in(Rule(2), seen, (3, 0), 1)], [False, True])
        self.assertEqual(counting_verdict(Works((1, 1)), Notes(((0, 9), (0, 0))), 0), "never")

    def test_errors_in_order(self):
        wide = Notes(((0, 5),) * 4)
        refuses_worlds(self, 4, lambda world: counts_in(BOTH_ENDS, wide, world, 9))
        self.assertEqual(raised(counts_in, BOTH_ENDS, wide, [1, 6, 7, 1], None), ("NotAgreeing", {"thing": 1}))
        refuses_things(self, 4, lambda thing: counts_in(BOTH_ENDS, wide, (1,) * 4, thing))
        refuses_things(self, 4, lambda thing: counting_verdict(BOTH_ENDS, wide, thing))
        self.assertEqual(raised(counts_in, BOTH_ENDS, COMPARED, None, None), ("NotPlain", {}))
        self.assertEqual(raised(counts_in, NET, COMPARED, None, None), ("OtherSize", {"size": 4}))
        self.assertEqual(raised(counting_verdict, BOTH_ENDS, COMPARED, None), ("NotPlain", {}))
        self.assertEqual(raised(counting_verdict, NET, COMPARED, 9), ("OtherSize", {"size": 4}))


class WideTest(unittest.TestCase):
    def test_sixteen_things(self):
        for place, rule in enumerate(WIDE_RULES + DEEP_RULES[::4]):
            notes = wide_notes(rule.size, place, 0)
            for x in range(0, rule.size, 5):
                verdict = counting_verdict(rule, notes, x)
                ends = [counts_in(rule, notes, world, x) for world in (notes.lows, notes.highs)]
                self.assertTrue(verdict == "depends" or ends == [verdict == "always"] * 2)
                if x not in rule.firm():
                    least, most = worth_reach(rule, notes, x)
                    found = [worth(rule, world, x) for world in (notes.lows, notes.highs, notes.latest(x))]
                    self.assertTrue(all(least <= one <= most for one in found))
                    if x not in rule.dead():
                        least, most = critical_reach(rule, notes, x)
                        self.assertTrue(least <= critical_price(rule, notes.latest(x), x) <= most)
