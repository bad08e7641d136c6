"""Points 106, 111, 112 and 115: foes, whose answers make every right plan ask much."""

import random
import unittest
from itertools import permutations

from tests.asking import ASKINGS, COMPARED, NET, NOTES, OPEN, SMALL
from tests.kinds import DEEP_RULES, WIDE_RULES
from tests.knowing import agreeing, key
from tests.meaning import raised
from tests.refusals import NO_COUNTS, refuses_things
from tests.test_surelots import wide_notes
from unseenprices.connected import parts
from unseenprices.counting import Firsts, Teams
from unseenprices.dues import useful
from unseenprices.equals import safe_lot
from unseenprices.foes import Foe, SomeFoe, TwiceFoe, UsefulFoe
from unseenprices.lazy import lazy_above, lazy_below
from unseenprices.nets import Net
from unseenprices.notes import Notes
from unseenprices.papers import Told
from unseenprices.rules import Rule
from unseenprices.runs import Run
from unseenprices.safepapers import SafeTold
from unseenprices.sets import TOP
from unseenprices.sums import Sum
from unseenprices.surelots import sure_lot


def is_fitting(rule):
    """Return whether each part has a rank as point 111 wants it."""
    return all(rule.rank(part) in (0, 1, len(part) - 1, len(part)) for part in parts(rule))


def asked_along(foe, order):
    """Ask the foe in this order; return what it answers."""
    return [foe(x) for x in order]


class Checks(unittest.TestCase):
    def check_foe(self, make, order):
        """Check all that is said of every foe, for one that is made anew and asked in this order."""
        foe = make()
        size = foe.rule.size
        told = [None] * size
        self.assertEqual(foe.answers(), tuple(told))
        whole = foe.whole()
        for x in order:
            self.assertEqual(foe.whole(), whole)
            told[x] = foe(x)
            self.assertEqual([foe(x), foe.answers()], [told[x], tuple(told)])
            other = make()
            asked = asked_along(other, order[:order.index(x) + 1])
            self.assertEqual(asked[-1], told[x])
            # The world of the answers has what a foe that was asked the same answers to all others, ascending.
            rest = [y for y in range(size) if told[y] is None]
            asked_along(other, rest)
            whole = foe.whole()
            self.assertEqual(whole, other.answers())
            self.assertTrue(foe.notes.agrees(whole))
            self.assertEqual(foe.answers(), tuple(told))
        return foe

    def check_errors(self, make):
        foe = make()
        foe(0)
        before = foe.answers()
        refuses_things(self, foe.rule.size, foe)
        self.assertEqual(foe.answers(), before)


class FoeTest(Checks):
    def test_highs(self):
        for order in ((), (2,), (4, 0, 1), (0, 1, 2, 3, 4)):
            foe = self.check_foe(lambda: Foe(NET, NOTES), order)
            self.assertEqual(foe.whole(), NOTES.highs)
        foe = Foe(NET, NOTES)
        self.assertIs(foe.rule, NET)
        self.assertIs(foe.notes, NOTES)
        self.assertEqual([foe(0), foe(1), foe.answers()], [4, 2, (4, 2, None, None, None)])
        self.assertEqual([Foe(Rule(0), Notes(())).whole(), Foe(Rule(0), Notes(())).answers()], [(), ()])

    def test_errors(self):
        self.check_errors(lambda: Foe(NET, NOTES))
        self.check_errors(lambda: UsefulFoe(NET, NOTES))
        self.check_errors(lambda: TwiceFoe(2))
        self.check_errors(lambda: SomeFoe(3))
        for call in (Foe, UsefulFoe):
            self.assertEqual(raised(call, NET, COMPARED), ("NotPlain", {}))
            self.assertEqual(raised(call, SMALL, COMPARED), ("OtherSize", {"size": 5}))


class TwiceTest(Checks):
    def test_every_order(self):
        for number in (1, 2, 3):
            for order in list(permutations(range(2 * number)))[::number]:
                foe = self.check_foe(lambda: TwiceFoe(number), order) if number < 3 else TwiceFoe(number)
                asked_along(foe, order)
                notes = foe.notes
                for x in order:
                    self.assertIsNone(sure_lot(foe.rule, notes))
                    first = x ^ 1 in order[order.index(x):]
                    self.assertEqual(foe(x), (1 if x % 2 else 2) if first else (3 if x % 2 else 0))
                    notes = notes.ask(x, foe(x))
                self.assertIsNotNone(sure_lot(foe.rule, notes))
                second = tuple(x for x in range(2 * number) if order.index(x ^ 1) < order.index(x))
                self.assertEqual([foe.counter(), foe.whole()], [second, foe.answers()])
                told = Told(foe.rule, foe.notes, foe.whole())
                self.assertEqual([told.fewest, told.shows(second)], [number, True])

    def test_counter_before_all_are_asked(self):
        for order in ((), (1,), (3, 1), (0, 2), (1, 0), (2, 3, 1)):
            foe = TwiceFoe(2)
            asked_along(foe, order)
            row = [*order, *[x for x in range(4) if x not in order]]
            second = tuple(x for x in range(4) if row.index(x ^ 1) < row.index(x))
            before = foe.answers()
            self.assertEqual([foe.counter(), foe.answers()], [second, before])

    def test_rule_and_notes(self):
        foe = TwiceFoe(3)
        self.assertIsInstance(foe, Foe)
        self.assertIsInstance(foe.rule, Teams)
        self.assertEqual([foe.rule.classes, foe.rule.places], [(0, 0, 1, 1, 2, 2), (1, 1, 1)])
        self.assertEqual(foe.notes, Notes(((0, 2), (1, 3)) * 3))

    def test_the_run_asks_twice(self):
        foe = TwiceFoe(8)
        run = Run(foe.rule, foe.notes)
        while run.next_step():
            x = run.next_step()[0]
            run.put(x, foe(x))
        self.assertEqual([len(run.asked), run.bound, Told(foe.rule, foe.notes, foe.whole()).fewest], [16, 8, 8])

    def test_example(self):
        foe = TwiceFoe(2)
        found = [foe(1), foe(2), foe(0), foe.answers(), foe.whole(), foe.counter()]
        self.assertEqual(found, [1, 2, 0, (0, 1, 2, None), (0, 1, 2, 3), (0, 3)])

    def test_bad_numbers(self):
        for wrong in (0, *NO_COUNTS):
            self.assertEqual(raised(TwiceFoe, wrong), ("BadNumber", {"name": "number"}))


class Verdicts:
    """What is in and out at the notes of a moment, from all worlds that agree."""

    def __init__(self, case, told):
        stretches = [(told[x], told[x]) if x in told else pair for x, pair in enumerate(case.known.stretches)]
        lots = [case.finder.lot(world) for world in agreeing(stretches, ())]
        self.out = [x for x in case.meaning.all if not any(x in lot for lot in lots)]
        self.ins = [x for x in case.meaning.all if all(x in lot for lot in lots)]
        self.lows = [low for low, _ in stretches]
        self.highs = [high for _, high in stretches]


def told_answer(case, told, thing):
    """Return what the useful foe answers, as point 112 words it."""
    part = [one for one in parts(case.rule) if thing in one][0]
    rank = case.meaning.ranks[part]
    now = Verdicts(case, told)
    flat, steep = rank == 1 and len(part) >= 2, rank == len(part) - 1 and len(part) >= 3
    if flat or steep:
        left = [x for x in part if x not in (now.out if flat else now.ins)]
        others = [x for x in left if x != thing]
        if thing in left and len(others) == 1 and all(now.lows[x] < now.highs[x] for x in left):
            y = others[0]
            prices = range(now.lows[thing], now.highs[thing] + 1)
            fitting = [v for v in prices if key(now.lows, y) < (v, thing) < key(now.highs, y)]
            return min(fitting) if flat else max(fitting)
    return now.lows[thing] if steep and not flat else now.highs[thing]


class UsefulTest(Checks):
    def test_as_point_112_words_it(self):
        chance = random.Random(112)
        for asking in ASKINGS[::2]:
            case = asking.case
            order = chance.sample(case.meaning.all, case.known.size)
            foe = UsefulFoe(case.rule, case.notes)
            told = {}
            for x in order:
                self.assertEqual(foe(x), told_answer(case, told, x))
                told[x] = foe(x)

    def test_every_order(self):
        # Point 111: no lot is sure before all things that are not idle are asked.
        fitting = [asking.case for asking in OPEN if is_fitting(asking.case.rule)]
        self.assertGreater(len(fitting), 150)
        for case in fitting[::3]:
            needed = useful(case.rule, case.notes)
            for order in list(permutations(case.notes.unseen()))[:24]:
                foe = UsefulFoe(case.rule, case.notes)
                notes = case.notes
                for place, x in enumerate(order):
                    if {*needed} <= {*order[:place]}:
                        break
                    self.assertIsNone(sure_lot(case.rule, notes))
                    notes = notes.ask(x, foe(x))
                self.assertIsNotNone(sure_lot(case.rule, notes.after(needed, foe.whole())))

    def test_runs_and_lazy_runs(self):
        for asking in [one for one in OPEN if is_fitting(one.case.rule)][::2]:
            case = asking.case
            foe, run = UsefulFoe(case.rule, case.notes), Run(case.rule, case.notes)
            while run.next_step():
                x = run.next_step()[0]
                run.put(x, foe(x))
            self.assertLessEqual({*useful(case.rule, case.notes)}, {*run.asked})
            # The world of the answers is another one for each plan.
            self.assertEqual(lazy_below(case.rule, run.notes, foe.whole()), [
                x for x in lazy_below(case.rule, case.notes, foe.whole()) if x not in run.asked
            ])
            self.assertTrue(run.notes.agrees(foe.whole()))
            self.assertLessEqual({*lazy_above(case.rule, run.notes, foe.whole())}, {*asking.unseen} - {*run.asked})

    def test_the_same_again(self):
        for asking in OPEN[::9]:
            case = asking.case
            self.check_foe(lambda: UsefulFoe(case.rule, case.notes), case.meaning.all[::-1])
            self.check_foe(lambda: UsefulFoe(case.rule, case.notes), case.meaning.all[1::2])

    def test_examples(self):
        two = Firsts(2, 1)
        for stretches, order, told in (
            (((0, 5), (0, 5)), (0, 1), [1, 5]), (((0, 5), (0, 5)), (1, 0), [0, 5]),
            (((0, 5), (4, 9)), (0, 1), [5, 9]), (((0, 5), (4, 9)), (1, 0), [4, 5]),
            (((0, TOP), (0, TOP)), (0, 1), [1, TOP]), (((0, 5), (6, 9)), (0, 1), [5, 9]),
            (((0, 5), (3, 3)), (1, 0), [3, 5]),
        ):
            self.assertEqual(asked_along(UsefulFoe(two, Notes(stretches)), order), told)
        # Rank 2 of three things: the greatest price between for the last two that are not in.
        ring = Net(3, ((0, 1), (1, 2), (0, 2)))
        self.assertEqual(asked_along(UsefulFoe(ring, Notes(((0, 9),) * 3)), (0, 1, 2)), [0, 9, 0])
        self.assertEqual(asked_along(UsefulFoe(ring, Notes(((0, 9),) * 3)), (2, 1, 0)), [0, 0, 0])
        self.assertEqual(asked_along(UsefulFoe(Firsts(4, 2), Notes(((0, 9),) * 4)), (2, 0)), [9, 9])
        foe = UsefulFoe(Sum(Rule(1), Firsts(1, 0)), Notes(((0, 9), (3, 3))))
        self.assertEqual([foe.whole(), foe.answers()], [(9, 3), (None, None)])
        self.assertIsInstance(foe, Foe)

    def test_wide(self):
        for place, rule in enumerate(WIDE_RULES + DEEP_RULES[::4]):
            notes = wide_notes(rule.size, place, 0)
            foe = UsefulFoe(rule, notes)
            for x in (3, rule.size - 1, 0):
                foe(x)
            whole = foe.whole()
            self.assertTrue(notes.agrees(whole))
            if is_fitting(rule) and sure_lot(rule, notes) is None:
                needed = useful(rule, notes)
                for x in needed:
                    left = [y for y in range(rule.size) if y != x]
                    self.assertIsNone(sure_lot(rule, notes.after(left, asked_last(rule, notes, left, x))))


def asked_last(rule, notes, left, thing):
    """Return the world that the useful foe answers if the thing is asked behind all others."""
    foe = UsefulFoe(rule, notes)
    asked_along(foe, left)
    foe(thing)
    return foe.answers()


class SomeTest(Checks):
    def test_every_order(self):
        for size in (2, 3, 4):
            for order in permutations(range(size)):
                foe = self.check_foe(lambda: SomeFoe(size), order)
                self.assertEqual(foe.answers(), tuple(0 if x == order[-1] else 1 for x in range(size)))
                notes = foe.notes
                for x in order[:-1]:
                    self.assertIsNone(safe_lot(foe.rule, notes))
                    notes = notes.ask(x, foe(x))
                self.assertEqual(safe_lot(foe.rule, notes), (order[-1],))
                self.assertEqual(foe.counter(), (order[-1],))
                self.assertEqual(SafeTold(foe.rule, foe.notes, foe.whole()).fewest, 1)

    def test_counter_before_all_are_asked(self):
        foe = SomeFoe(3)
        self.assertEqual([foe.counter(), foe(2), foe.counter(), foe(0), foe.counter()], [(2,), 1, (1,), 1, (1,)])
        self.assertEqual([foe.answers(), foe.whole()], [(1, None, 1), (1, 0, 1)])

    def test_rule_and_notes(self):
        foe = SomeFoe(16)
        self.assertIsInstance(foe, Foe)
        self.assertIsInstance(foe.rule, Firsts)
        self.assertEqual([foe.rule.size, foe.rule.number, foe.notes], [16, 1, Notes(((0, 1),) * 16)])
        self.assertEqual([foe.whole(), foe.counter()], [(1,) * 15 + (0,), (15,)])

    def test_bad_numbers(self):
        for wrong in (0, 1, *NO_COUNTS):
            self.assertEqual(raised(SomeFoe, wrong), ("BadNumber", {"name": "size"}))
