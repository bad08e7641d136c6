"""Point 75: the middle lot, and the lot with the least regret."""

import unittest

from tests.cases import PLAIN_CASES, price_in
from tests.kinds import DEEP_RULES, WIDE_RULES
from tests.meaning import raised, with_things
from tests.test_surelots import wide_notes
from unseenprices.choosing import lot_of
from unseenprices.counting import Firsts
from unseenprices.equals import safe_lot
from unseenprices.middles import calmest, middle_lot
from unseenprices.nets import Net
from unseenprices.notes import Notes
from unseenprices.regrets import regret
from unseenprices.rules import Rule
from unseenprices.sets import TOP


class MiddlesTest(unittest.TestCase):
    def told(self, case):
        found = ()
        for _, x in sorted((low + high, x) for x, (low, high) in enumerate(case.known.stretches)):
            if with_things(found, (x,)) in case.meaning.free:
                found = with_things(found, (x,))
        return found

    def test_every_small_rule(self):
        for case in PLAIN_CASES:
            regrets = [
                max(price_in(world, lot) - price for world, price in zip(case.worlds, case.prices))
                for lot in case.meaning.lots
            ]
            lot = middle_lot(case.rule, case.notes)
            self.assertEqual(lot, self.told(case))
            most = regrets[case.meaning.lots.index(lot)]
            self.assertLessEqual(most, 2 * min(regrets))
            self.assertEqual(most == 0, safe_lot(case.rule, case.notes) is not None)
            self.assertEqual(calmest(case.rule, case.notes), case.meaning.lots[regrets.index(min(regrets))])

    def test_twice_is_reached(self):
        notes = Notes([(0, 10), (5, 5), (0, 20)])
        self.assertEqual([middle_lot(Firsts(3, 1), notes), calmest(Firsts(3, 1), notes)], [(0,), (1,)])
        self.assertEqual([regret(Firsts(3, 1), notes, lot) for lot in ((0,), (1,))], [10, 5])

    def test_equal_middles_and_equal_regrets(self):
        self.assertEqual([call(Firsts(2, 1), Notes(((0, 4), (2, 2)))) for call in (middle_lot, calmest)], [(0,), (0,)])
        self.assertEqual([call(Firsts(2, 1), Notes(((2, 2), (0, 4)))) for call in (middle_lot, calmest)], [(0,), (0,)])
        self.assertEqual(middle_lot(Firsts(2, 1), Notes(((0, 5), (2, 2)))), (1,))

    def test_ends(self):
        for call in (middle_lot, calmest):
            self.assertEqual([call(Rule(0), Notes(())), call(Firsts(2, 0), Notes.unknown(2))], [(), ()])
            self.assertEqual(call(Rule(2), Notes(((TOP, TOP), (0, TOP)))), (0, 1))

    def test_ten_things_and_more(self):
        notes = Notes([(x % 3, 4 + x) for x in range(10)])
        found = calmest(Firsts(10, 5), notes)
        least = min(regret(Firsts(10, 5), notes, lot) for lot in Firsts(10, 5).lots())
        self.assertEqual(regret(Firsts(10, 5), notes, found), least)
        self.assertEqual(raised(calmest, Firsts(11, 1), Notes.unknown(11)), ("TooMany", {"number": 11}))
        self.assertEqual(raised(calmest, Firsts(16, 0), Notes.unknown(16)), ("TooMany", {"number": 16}))

    def test_errors_in_order(self):
        compared = Notes.unknown(11, pairs=((0, 1),))
        for call in (middle_lot, calmest):
            self.assertEqual(raised(call, Firsts(11, 1), compared), ("NotPlain", {}))
            self.assertEqual(raised(call, Net(2, ((0, 1),)), compared), ("OtherSize", {"size": 11}))

    def test_wide(self):
        for place, rule in enumerate(WIDE_RULES + DEEP_RULES[::3]):
            notes = wide_notes(rule.size, place, 0)
            lot = middle_lot(rule, notes)
            middles = tuple((low + high) * 2 for low, high in notes.stretches)
            self.assertEqual(lot, lot_of(rule, middles))
            for other in (lot_of(rule, notes.lows), lot_of(rule, notes.highs)):
                self.assertLessEqual(regret(rule, notes, lot), 2 * regret(rule, notes, other))
