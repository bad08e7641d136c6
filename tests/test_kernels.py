"""Point 59: the smaller rule in which only the unsettled things are open."""

import unittest

from tests.cases import CASES
from tests.kinds import DEEP_RULES, WIDE_RULES
from tests.meaning import check_rule, drawn_meaning, less_meaning, raised, with_things, without_things
from tests.test_surelots import wide_notes
from unseenprices.choosing import lot_of
from unseenprices.counting import Firsts
from unseenprices.fitting import world_for
from unseenprices.judging import verdict, verdicts
from unseenprices.kernels import kernel
from unseenprices.nets import Net
from unseenprices.notes import Notes
from unseenprices.rules import Rule
from unseenprices.surelots import doubt


class KernelTest(unittest.TestCase):
    def test_every_small_rule(self):
        for case in CASES:
            smaller, ins, outs = kernel(case.rule, case.notes)
            self.assertEqual(ins, tuple(x for x in case.meaning.all if case.judged(x) == "in"))
            self.assertEqual(outs, tuple(x for x in case.meaning.all if case.judged(x) == "out"))
            self.assertIsInstance(smaller, Rule)
            for world, lot in list(zip(case.worlds, case.found))[::7]:
                self.assertEqual(with_things(ins, lot_of(smaller, world)), lot)

    def test_the_smaller_rule(self):
        for case in CASES[::6]:
            smaller, ins, outs = kernel(case.rule, case.notes)
            check_rule(self, smaller, less_meaning(drawn_meaning(case.meaning, ins), outs))

    def test_verdicts_and_lots(self):
        for case in CASES[::3]:
            smaller, ins, outs = kernel(case.rule, case.notes)
            for x in without_things(case.meaning.all, with_things(ins, outs)):
                self.assertEqual(verdict(smaller, case.notes, x), "unsettled")
            for lot in case.meaning.lots:
                fits = set(ins) <= set(lot) and not set(outs) & set(lot)
                rest = without_things(lot, ins)
                sure = fits and doubt(smaller, case.notes, rest) is None
                possible = fits and world_for(smaller, case.notes, rest) is not None
                self.assertEqual([sure, possible], [case.possible() == [lot], lot in case.found])

    def test_examples(self):
        net = Net(4, ((0, 1), (1, 2), (0, 2), (2, 3), (2, 3)))
        smaller, ins, outs = kernel(net, Notes(((1, 4), (2, 2), (3, 6), (0, 5), (4, 4))))
        self.assertEqual([ins, outs, smaller.lots()], [(1,), (), [(0, 3), (0, 4), (2, 3), (2, 4)]])
        smaller, ins, outs = kernel(Firsts(3, 1), Notes(((0, 1), (1, 2), (3, 4))))
        self.assertEqual([ins, outs, smaller.lots(), smaller.size], [(0,), (1, 2), [()], 3])
        smaller, ins, outs = kernel(Rule(0), Notes(()))
        self.assertEqual([ins, outs, smaller.size], [(), (), 0])
        self.assertIsInstance(kernel(Rule(0), Notes(())), tuple)

    def test_other_size(self):
        for size in (0, 2, 4):
            self.assertEqual(raised(kernel, Firsts(3, 1), Notes.unknown(size)), ("OtherSize", {"size": size}))

    def test_wide(self):
        for place, rule in enumerate(WIDE_RULES + DEEP_RULES[::3]):
            notes = wide_notes(rule.size, place, (0, 20, 60)[place % 3])
            smaller, ins, outs = kernel(rule, notes)
            told = verdicts(rule, notes)
            self.assertEqual([told[x] for x in ins + outs], ["in"] * len(ins) + ["out"] * len(outs))
            for world in (notes.lows, notes.highs):
                self.assertEqual(with_things(ins, lot_of(smaller, world)), lot_of(rule, world))
