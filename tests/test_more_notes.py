"""Points 39, 42 and 43: more notes, turned notes, joined notes."""

import random
import unittest
from itertools import product

from tests.knowing import SMALL_KNOWN, agreeing, all_pairs, greatest_of, is_bad_row, key, least_of
from tests.meaning import all_sets, raised
from tests.refusals import NO_PRICES, refuses_sets, refuses_things, refuses_worlds
from unseenprices.notes import Notes
from unseenprices.sets import TOP


class MoreNotesTest(unittest.TestCase):
    def check_more(self, known, call, fits):
        """Check a call that narrows the worlds down to those that fit; return what it returns, None if none fits."""
        left = [world for world in known.worlds if fits(world)]
        if not left:
            name, _ = raised(call)
            self.assertEqual(name, "NotGood")
            return None
        notes = call()
        self.assertIsInstance(notes, Notes)
        self.assertEqual(agreeing(notes.stretches, notes.pairs), left)
        self.assertEqual([notes.lows, notes.highs], [least_of(left), greatest_of(left)])
        return notes

    def test_ask(self):
        for known in SMALL_KNOWN:
            for x, (low, high) in enumerate(known.stretches):
                for price in range(low, high + 1):
                    found = self.check_more(known, lambda: known.notes.ask(x, price), lambda world: world[x] == price)
                    if found is not None:
                        told = (*known.stretches[:x], (price, price), *known.stretches[x + 1:])
                        self.assertEqual(found, Notes(told, pairs=known.pairs))

    def test_narrow(self):
        for known in SMALL_KNOWN:
            for x, (least, most) in enumerate(known.stretches):
                for low, high in product(range(least, most + 1), repeat=2):
                    if low <= high:
                        call = lambda: known.notes.narrow(x, low, high)
                        found = self.check_more(known, call, lambda world: low <= world[x] <= high)
                        if found is not None:
                            told = (*known.stretches[:x], (low, high), *known.stretches[x + 1:])
                            self.assertEqual(found, Notes(told, pairs=known.pairs))

    def test_compare(self):
        for known in SMALL_KNOWN:
            for x, y in all_pairs(known.size):
                call = lambda: known.notes.compare(x, y)
                found = self.check_more(known, call, lambda world: key(world, x) < key(world, y))
                if found is not None:
                    self.assertEqual(found, Notes(known.stretches, pairs=(*known.pairs, (x, y))))
                    self.assertEqual(found == known.notes, (x, y) in known.pairs)

    def test_a_comparison_that_follows(self):
        notes = Notes(((0, 9), (0, 9), (0, 9)), pairs=((2, 1), (1, 0)))
        more = notes.compare(2, 0)
        self.assertEqual([more.pairs, more == notes], [((1, 0), (2, 0), (2, 1)), False])
        self.assertEqual([more.lows, more.highs], [notes.lows, notes.highs])
        bounded = Notes(((0, 3), (3, 9)))
        self.assertTrue(bounded.sure_before(0, 1))
        self.assertEqual([bounded.compare(0, 1) == bounded, bounded.compare(0, 1).plain], [False, False])
        self.assertEqual(bounded.compare(0, 1).lows, (0, 3))

    def test_rows_of_not_good(self):
        for known in SMALL_KNOWN:
            for x, y in all_pairs(known.size):
                problem = raised(known.notes.compare, x, y)
                if problem is not None:
                    self.assertTrue(is_bad_row(problem[1]["row"], known.stretches, (*known.pairs, (x, y))))
        notes = Notes(((0, 5), (0, 5)), pairs=((1, 0),))
        self.assertEqual(raised(notes.ask, 0, 0), ("NotGood", {"row": (1, 0)}))
        self.assertEqual(raised(notes.narrow, 1, 5, 5), ("NotGood", {"row": (1, 0)}))
        self.assertEqual(raised(notes.compare, 0, 1), ("NotGood", {"row": (0, 1, 0)}))

    def test_after(self):
        chance = random.Random(35)
        for known in SMALL_KNOWN:
            for world in chance.sample(known.worlds, min(3, len(known.worlds))):
                for things in all_sets(known.size):
                    call = lambda: known.notes.after(list(things), list(world))
                    found = self.check_more(known, call, lambda more: all(more[x] == world[x] for x in things))
                    told = [(world[x], world[x]) if x in things else row for x, row in enumerate(known.stretches)]
                    self.assertEqual(found, Notes(told, pairs=known.pairs))

    def test_more_notes_keep_what_was_sure(self):
        for known in SMALL_KNOWN:
            for x, y in all_pairs(known.size):
                if known.notes.agrees(known.worlds[-1]) and key(known.worlds[-1], x) < key(known.worlds[-1], y):
                    more = known.notes.compare(x, y).after((x,), known.worlds[-1])
                    self.assertTrue(more.agrees(known.worlds[-1]))
                    self.assertTrue(all(a <= b for a, b in zip(known.notes.lows, more.lows)))
                    self.assertTrue(all(a >= b for a, b in zip(known.notes.highs, more.highs)))
                    for one, other in all_pairs(known.size):
                        self.assertLessEqual(known.notes.sure_before(one, other), more.sure_before(one, other))

    def test_the_notes_stay(self):
        notes = Notes(((0, 5), (0, 5)), pairs=((1, 0),))
        notes.ask(0, 3)
        notes.narrow(0, 2, 3)
        notes.after((0, 1), (3, 2))
        Notes(((0, 5), (0, 5))).compare(0, 1)
        self.assertEqual([notes.stretches, notes.pairs, notes.lows], [((0, 5), (0, 5)), ((1, 0),), (1, 0)])

    def test_seen_things_and_the_told_stretch_again(self):
        notes = Notes(((3, 3), (0, 5)), pairs=((0, 1),))
        self.assertEqual(notes.ask(0, 3), notes)
        self.assertEqual(notes.narrow(0, 3, 3), notes)
        self.assertEqual(notes.narrow(1, 0, 5), notes)
        self.assertEqual(notes.compare(0, 1), notes)
        self.assertEqual(notes.after((0,), (3, 4)), notes)
        self.assertEqual(notes.after((), (3, 4)), notes)


class MoreNotesErrorsTest(unittest.TestCase):
    notes = Notes(((0, 5), (2, 4), (1, TOP)), pairs=((1, 0),))

    def test_things(self):
        for call in (
            self.notes.seen, self.notes.must_precede, self.notes.may_precede, self.notes.earliest, self.notes.latest,
            lambda thing: self.notes.ask(thing, None), lambda thing: self.notes.narrow(thing, 9, None),
            lambda thing: self.notes.sure_before(thing, None), lambda thing: self.notes.sure_before(0, thing),
            lambda thing: self.notes.compare(thing, None), lambda thing: self.notes.compare(0, thing),
        ):
            refuses_things(self, 3, call)
        for call in (Notes(()).seen, Notes(()).latest, lambda thing: Notes(()).sure_before(thing, 0)):
            refuses_things(self, 0, call)

    def test_prices_that_do_not_fit(self):
        for wrong in (*NO_PRICES, 1, 5):
            self.assertEqual(raised(self.notes.ask, 1, wrong), ("BadStretch", {"thing": 1}))
            self.assertEqual(raised(self.notes.narrow, 1, wrong, 3), ("BadStretch", {"thing": 1}))
            self.assertEqual(raised(self.notes.narrow, 1, 3, wrong), ("BadStretch", {"thing": 1}))
        self.assertEqual(raised(self.notes.narrow, 0, 4, 3), ("BadStretch", {"thing": 0}))
        self.assertEqual(raised(self.notes.narrow, 2, 0, TOP), ("BadStretch", {"thing": 2}))
        self.assertEqual(raised(self.notes.narrow, 2, 1, TOP + 1), ("BadStretch", {"thing": 2}))
        # The told stretch counts, not what the comparisons leave of it.
        self.assertEqual(raised(self.notes.ask, 0, 6), ("BadStretch", {"thing": 0}))
        self.assertEqual(raised(self.notes.ask, 0, 2)[0], "NotGood")
        self.assertEqual(raised(self.notes.narrow, 0, 0, 2)[0], "NotGood")
        self.assertEqual(self.notes.narrow(0, 0, 3).lows, (3, 2, 1))

    def test_compare(self):
        for x in range(3):
            self.assertEqual(raised(self.notes.compare, x, x), ("BadPair", {"place": 0}))
        self.assertEqual(raised(self.notes.compare, 0, 1), ("NotGood", {"row": (0, 1, 0)}))

    def test_after(self):
        refuses_sets(self, 3, lambda things: self.notes.after(things, None))
        refuses_worlds(self, 3, lambda world: self.notes.after((0,), world))
        self.assertEqual(raised(self.notes.after, (), (6, 2, 1)), ("NotAgreeing", {"thing": 0}))
        self.assertEqual(raised(self.notes.after, (2,), (2, 2, 1)), ("NotAgreeing", {"thing": 1}))
        self.assertEqual(raised(self.notes.after, (0, 0), (2, 2)), ("BadSet", {"place": 1}))


class TurnedAndJoinedTest(unittest.TestCase):
    def turned(self, world):
        return tuple(TOP - price for price in world[::-1])

    def test_turned(self):
        for known in SMALL_KNOWN:
            notes, last = ~known.notes, known.size - 1
            self.assertEqual(notes.stretches, tuple((TOP - b, TOP - a) for a, b in known.stretches[::-1]))
            self.assertEqual(notes.pairs, tuple(sorted({(last - y, last - x) for x, y in known.pairs})))
            self.assertEqual(notes.lows, self.turned(known.notes.highs))
            self.assertEqual(notes.highs, self.turned(known.notes.lows))
            self.assertEqual(~notes, known.notes)
            turned = {self.turned(world) for world in known.worlds}
            self.assertEqual({*agreeing(notes.stretches, notes.pairs)}, turned)

    def test_joined(self):
        for one, other in zip(SMALL_KNOWN, SMALL_KNOWN[5:] + SMALL_KNOWN[:5]):
            notes = one.notes + other.notes
            moved = [(x + one.size, y + one.size) for x, y in other.pairs]
            self.assertEqual(notes, Notes(one.stretches + other.stretches, pairs=[*one.pairs, *moved]))
            self.assertEqual(notes.lows, one.notes.lows + other.notes.lows)
            self.assertEqual(notes.highs, one.notes.highs + other.notes.highs)
            if len(one.worlds) * len(other.worlds) < 300:
                found = agreeing(notes.stretches, notes.pairs)
                self.assertEqual(found, [a + b for a in one.worlds for b in other.worlds])

    def test_no_things(self):
        none, notes = Notes(()), Notes(((0, 1), (0, 1)), pairs=((0, 1),))
        self.assertEqual([none + notes, notes + none, none + none, ~none], [notes, notes, none, none])

    def test_with_what_is_no_notes(self):
        with self.assertRaises(TypeError):
            Notes(()) + ()

    def test_both_stay(self):
        one, other = Notes(((0, 1),)), Notes(((2, 3), (2, 3)), pairs=((1, 0),))
        for _ in (one + other, other + one, ~one, ~other):
            self.assertEqual([one.stretches, one.pairs], [((0, 1),), ()])
            self.assertEqual([other.stretches, other.pairs], [((2, 3), (2, 3)), ((1, 0),)])
