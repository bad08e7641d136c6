"""Points 101, 104, 105 and 116: runs that are put step by step, kept ones, and what is foreseen of them."""

import random
import unittest

from tests.asking import ASKINGS, COMPARED, NET, NOTES, OPEN, SMALL, WORLD
from tests.kinds import DEEP_RULES, WIDE_RULES
from tests.meaning import raised
from tests.refusals import NO_PRICES, refuses_things, refuses_worlds
from tests.test_surelots import wide_notes
from unseenprices.choosing import lot_of
from unseenprices.counting import Firsts
from unseenprices.dues import pressing
from unseenprices.notes import Notes
from unseenprices.pairs import step
from unseenprices.papers import Told
from unseenprices.rules import Rule
from unseenprices.runs import Kept, Run, foreseen
from unseenprices.sets import TOP
from unseenprices.sums import Sum
from unseenprices.surelots import sure_lot

FOUR = Firsts(4, 2)
FOUR_NOTES = Notes(((0, 10), (5, 15), (9, 20), (14, 25)))


def seen_of(run):
    """Return all that a run shows of itself."""
    return (run.notes, run.asked, run.steps, run.bound, run.sure, run.next_step(), run.lot_now(), list(run))


class Model:
    """What the interface says of a run, word by word."""

    def __init__(self, rule, notes):
        self.rule, self.notes = rule, notes
        self.asked, self.steps, self.bound, self.missing = [], [], 0, None

    def next_step(self):
        return step(self.rule, self.notes) if self.missing is None else (self.missing,)

    def put(self, thing, price):
        if thing == self.missing:
            self.missing = None
        elif self.missing is None and thing in step(self.rule, self.notes):
            found = step(self.rule, self.notes)
            self.steps.append(found)
            self.bound += 1
            if len(found) == 2:
                self.missing = found[0] if thing == found[1] else found[1]
        else:
            self.bound += thing in pressing(self.rule, self.notes)
            self.steps.append((thing,))
        self.asked.append(thing)
        self.notes = self.notes.ask(thing, price)

    def seen(self):
        lot = sure_lot(self.rule, self.notes)
        sure = lot is not None
        steps = tuple(self.steps)
        return (self.notes, tuple(self.asked), steps, self.bound, sure, self.next_step(), lot, self.steps)


class FinishTest(unittest.TestCase):
    def test_every_world(self):
        wholes = 0
        for asking in ASKINGS:
            case = asking.case
            for world, lot in list(zip(case.worlds, case.found))[::2]:
                run = Run(case.rule, case.notes)
                self.assertEqual(run.finish(list(world)), lot)
                self.assertEqual([run.lot_now(), run.sure, run.next_step()], [lot, True, ()])
                self.assertEqual(run.asked, tuple(x for one in run.steps for x in one))
                self.assertEqual(run.notes, case.notes.after(sorted(run.asked), world))
                self.check_steps(asking, world, run)
                wholes += len(run.steps) < len(run.asked)
        self.assertGreater(wholes, 500)

    def check_steps(self, asking, world, run):
        """Hold the steps against point 105 and what is said of bound."""
        papers = asking.papers(world)
        fewest = asking.fewest(world)
        self.assertEqual(run.bound, len(run.steps))
        self.assertEqual(len({*run.asked}), len(run.asked))
        self.assertTrue(run.bound <= fewest and len(run.asked) <= 2 * fewest)
        for one in run.steps:
            self.assertTrue(all({*one} & {*things} for things in papers))
        self.assertIn(tuple(sorted(run.asked)), papers)
        if all(len(one) == 1 for one in run.steps):
            self.assertTrue(all({*run.asked} <= {*things} for things in papers))

    def test_each_step_is_the_step_at_its_moment(self):
        for asking in OPEN[::3]:
            case = asking.case
            for world in case.worlds[::9]:
                run = Run(case.rule, case.notes)
                run.finish(world)
                notes = case.notes
                for one in run.steps:
                    self.assertEqual(one, step(case.rule, notes))
                    notes = notes.after(one, world)
                self.assertEqual(step(case.rule, notes), ())

    def test_a_step_of_two_is_asked_whole(self):
        two = Firsts(2, 1)
        run = Run(two, Notes(((0, 9), (5, 15))))
        run.put(0, 2)
        self.assertEqual([run.sure, run.lot_now(), run.next_step()], [True, (0,), (1,)])
        self.assertEqual([run.finish((2, 9)), run.asked, run.steps, run.bound], [(0,), (0, 1), ((0, 1),), 1])

    def test_sums(self):
        # Point 116: in a joined world both rules are asked what their own runs ask.
        small = [asking.case for asking in OPEN if asking.case.known.size <= 4][::7]
        for one, other in zip(small, small[1:]):
            for world, second in zip(one.worlds[::9], other.worlds[::7]):
                run = Run(Sum(one.rule, other.rule), one.notes + other.notes)
                run.finish(world + second)
                first, last = Run(one.rule, one.notes), Run(other.rule, other.notes)
                first.finish(world)
                last.finish(second)
                size = one.known.size
                self.assertEqual([x for x in run.asked if x < size], list(first.asked))
                self.assertEqual([x - size for x in run.asked if x >= size], list(last.asked))

    def test_example(self):
        run = Run(NET, NOTES)
        found = [run.ahead(WORLD), run.steps, run.finish(WORLD), run.asked, run.bound]
        self.assertEqual(found, [((3,), (0, 2)), (), (0, 1, 3), (3, 0, 2), 2])
        self.assertIs(run.rule, NET)
        self.assertEqual(list(run), [(3,), (0, 2)])

    def test_edges(self):
        for rule, notes, world in (
            (Rule(0), Notes(()), ()), (Rule(2), Notes.unknown(2), (0, TOP)), (Firsts(2, 0), Notes.unknown(2), (5, 5)),
            (Firsts(2, 1), Notes(((4, 4), (4, 4))), (4, 4)),
        ):
            run = Run(rule, notes)
            self.assertEqual([run.sure, run.next_step(), run.ahead(world)], [True, (), ()])
            self.assertEqual(run.finish(world), lot_of(rule, world))
            self.assertEqual([run.asked, run.steps, run.bound, run.notes == notes], [(), (), 0, True])

    def test_sixteen_things(self):
        for place, rule in enumerate(WIDE_RULES + DEEP_RULES[::3]):
            notes = wide_notes(rule.size, place, 0)
            for world in (notes.lows, notes.latest(place % rule.size)):
                run = Run(rule, notes)
                ahead = run.ahead(world)
                self.assertEqual(run.finish(world), lot_of(rule, world))
                self.assertEqual(run.steps, ahead)
                fewest = Told(rule, notes, world).fewest
                self.assertTrue(run.bound <= fewest <= len(run.asked) <= 2 * fewest)


class PutTest(unittest.TestCase):
    def test_any_order(self):
        chance = random.Random(105)
        for asking in OPEN:
            case = asking.case
            for _ in range(3):
                world = chance.choice(case.worlds)
                run, model = Run(case.rule, case.notes), Model(case.rule, case.notes)
                for thing in chance.sample(asking.unseen, len(asking.unseen)):
                    run.put(thing, world[thing])
                    model.put(thing, world[thing])
                    self.assertEqual(seen_of(run), model.seen())
                    left = [one for one in case.worlds if run.notes.agrees(one)]
                    self.assertTrue(all(run.bound <= asking.fewest(one) for one in left[::3]))

    def test_in_the_order_of_the_steps(self):
        chance = random.Random(104)
        for asking in OPEN[::2]:
            case = asking.case
            world = chance.choice(case.worlds)
            run, model = Run(case.rule, case.notes), Model(case.rule, case.notes)
            while run.next_step():
                # Either thing of a step of two may be put first.
                thing = chance.choice(run.next_step())
                run.put(thing, world[thing])
                model.put(thing, world[thing])
                self.assertEqual(seen_of(run), model.seen())
            self.assertEqual(run.bound, len(run.steps))

    def test_another_thing_between_the_two(self):
        run = Run(FOUR, FOUR_NOTES)
        self.assertEqual(run.next_step(), (1, 2))
        run.put(2, 11)
        self.assertEqual([run.next_step(), run.steps, run.bound], [(1,), ((1, 2),), 1])
        run.put(0, 4)
        self.assertEqual([run.next_step(), run.steps, run.bound], [(1,), ((1, 2), (0,)), 1])
        run.put(1, 15)
        self.assertEqual([run.asked, run.steps, run.bound, run.sure], [(2, 0, 1), ((1, 2), (0,)), 1, True])

    def test_a_pressing_thing_out_of_turn(self):
        # Of the things 0 and 1 both are pressing; the greater one counts, too, though it is not the step.
        rule, notes = Sum(Firsts(2, 1), Firsts(2, 1)), Notes(((0, 9), (5, 5), (0, 9), (5, 5)))
        run = Run(rule, notes)
        self.assertEqual([pressing(rule, notes), run.next_step()], [(0, 2), (0,)])
        run.put(2, 7)
        self.assertEqual([run.steps, run.bound, run.next_step()], [((2,),), 1, (0,)])
        run.put(0, 7)
        self.assertEqual([run.steps, run.bound, run.sure, run.lot_now()], [((2,), (0,)), 2, True, (1, 3)])

    def test_other_things_while_one_is_missing(self):
        # A pressing one counts, another one does not.
        run = Run(SMALL, Notes(((0, 9), (5, 15), (4, 20))))
        run.put(0, 8)
        self.assertEqual([run.next_step(), pressing(SMALL, run.notes)], [(1,), (2,)])
        run.put(2, 5)
        self.assertEqual([run.next_step(), run.steps, run.bound], [(1,), ((0, 1), (2,)), 2])
        run.put(1, 5)
        self.assertEqual([run.next_step(), run.steps, run.bound], [(), ((0, 1), (2,)), 2])
        run = Run(Sum(Firsts(2, 1), Firsts(2, 1)), Notes(((0, 9), (5, 15), (0, 9), (5, 15))))
        run.put(1, 7)
        self.assertEqual([run.next_step(), pressing(run.rule, run.notes)], [(0,), (0,)])
        run.put(2, 8)
        self.assertEqual([run.next_step(), run.steps, run.bound], [(0,), ((0, 1), (2,)), 1])
        # Now thing 3 is pressing, but thing 0 is still missing.
        self.assertEqual(pressing(run.rule, run.notes), (0, 3))
        run.put(3, 9)
        self.assertEqual([run.next_step(), run.steps, run.bound], [(0,), ((0, 1), (2,), (3,)), 2])

    def test_errors(self):
        run = Run(NET, NOTES)
        run.put(3, 1)
        before = seen_of(run)
        refuses_things(self, 5, lambda thing: run.put(thing, 1))
        refuses_things(self, 5, lambda thing: run.put(thing, None))
        for thing in (1, 3, 4):
            for price in (1, 2, None, TOP + 1):
                self.assertEqual(raised(run.put, thing, price), ("IsSeen", {"thing": thing}))
        for wrong in (*NO_PRICES, 0, 5, TOP):
            self.assertEqual(raised(run.put, 0, wrong), ("BadStretch", {"thing": 0}))
        self.assertEqual(seen_of(run), before)
        self.assertEqual([raised(run.put, 0, 1), raised(run.put, 2, 6)], [None, None])

    def test_made(self):
        self.assertEqual(raised(Run, NET, COMPARED), ("NotPlain", {}))
        self.assertEqual(raised(Run, SMALL, COMPARED), ("OtherSize", {"size": 5}))

    def test_worlds(self):
        for name in ("finish", "ahead"):
            run = Run(NET, NOTES)
            refuses_worlds(self, 5, getattr(run, name))
            run.put(3, 1)
            before = seen_of(run)
            self.assertEqual(raised(getattr(run, name), (2, 2, 5, 2, 4)), ("NotAgreeing", {"thing": 3}))
            self.assertEqual(raised(getattr(run, name), [0, 2, 9, 2, 4]), ("NotAgreeing", {"thing": 0}))
            self.assertEqual(raised(getattr(run, name), (2, 2)), ("BadWorld", {"place": 2}))
            self.assertEqual(seen_of(run), before)

    def test_lists_stay(self):
        world = list(WORLD)
        run = Run(NET, NOTES)
        run.ahead(world)
        run.finish(world)
        self.assertEqual(world, list(WORLD))
        self.assertIsNot(list(run), list(run))


class KeptTest(unittest.TestCase):
    def test_as_it_was(self):
        for asking in OPEN[::4]:
            case = asking.case
            run = Run(case.rule, case.notes)
            first = run.next_step()[0]
            run.put(first, case.notes.lows[first])
            before = seen_of(run)
            world = [one for one in case.worlds if run.notes.agrees(one)][-1]
            kept = run.kept()
            self.assertIs(kept.run, run)
            self.assertIs(kept.ended, False)
            with kept as held:
                self.assertIs(held, run)
                self.assertIs(kept.ended, False)
                held.finish(world)
            self.assertIs(kept.ended, True)
            self.assertEqual(seen_of(run), before)
            # Entered again, it changes nothing.
            self.assertEqual(raised(kept.__enter__), ("Closed", {}))
            self.assertEqual(raised(foreseen, kept, world), ("Closed", {}))
            self.assertEqual(seen_of(run), before)
            ahead = run.ahead(world)
            self.assertEqual(ahead, foreseen(run.kept(), world))
            run.finish(world)
            self.assertEqual(run.steps, before[2] + ahead)

    def test_as_it_is_when_the_block_is_entered(self):
        run = Run(NET, NOTES)
        kept = Kept(run)
        run.put(3, 1)
        with kept:
            run.put(0, 2)
            self.assertEqual([run.asked, run.next_step()], [(3, 0), (2,)])
        self.assertEqual([run.asked, run.next_step(), run.bound], [(3,), (0, 2), 1])

    def test_a_missing_thing_is_missing_again(self):
        run = Run(NET, NOTES)
        run.put(3, 1)
        run.put(2, 3)
        self.assertEqual([run.next_step(), run.sure], [(0,), False])
        with run.kept():
            run.put(0, 2)
            self.assertEqual([run.next_step(), run.sure], [(), True])
        self.assertEqual([run.next_step(), run.sure, run.steps], [(0,), False, ((3,), (0, 2))])

    def test_an_error_leaves_the_block(self):
        run = Run(NET, NOTES)
        kept = run.kept()
        with self.assertRaises(KeyError):
            with kept as held:
                held.put(3, 1)
                raise KeyError(3)
        self.assertEqual([run.asked, run.steps, kept.ended], [(), (), True])
        self.assertEqual(run.notes, NOTES)

    def test_entered_again_within_its_block(self):
        run = Run(NET, NOTES)
        kept = run.kept()
        with kept:
            run.put(3, 1)
            self.assertEqual(raised(kept.__enter__), ("Closed", {}))
            self.assertEqual(raised(foreseen, kept, WORLD), ("Closed", {}))
            self.assertEqual([run.asked, kept.ended], [(3,), False])
        self.assertEqual([run.asked, kept.ended], [(), True])

    def test_one_within_another(self):
        run = Run(NET, NOTES)
        with run.kept():
            run.put(3, 1)
            with run.kept() as held:
                held.put(0, 1)
                self.assertEqual(run.asked, (3, 0))
                self.assertEqual(run.ahead((1, 2, 3, 1, 4)), ())
            self.assertEqual([run.asked, run.next_step()], [(3,), (0, 2)])
        self.assertEqual([run.asked, run.next_step()], [(), (3,)])

    def test_foreseen(self):
        run = Run(NET, NOTES)
        kept = run.kept()
        self.assertEqual([foreseen(kept, list(WORLD)), kept.ended, run.steps], [((3,), (0, 2)), True, ()])
        self.assertEqual(raised(foreseen, kept, None), ("Closed", {}))
        for wrong, told in (((2, 2), ("BadWorld", {"place": 2})), ((2, 2, 5, 9, 4), ("NotAgreeing", {"thing": 3}))):
            kept = run.kept()
            self.assertEqual(raised(foreseen, kept, wrong), told)
            self.assertIs(kept.ended, True)
            self.assertEqual(raised(foreseen, kept, WORLD), ("Closed", {}))
        self.assertEqual([run.asked, run.steps, run.bound], [(), (), 0])

    def test_two_of_one_run(self):
        run = Run(NET, NOTES)
        one, other = run.kept(), run.kept()
        self.assertIsNot(one, other)
        with one:
            run.put(3, 1)
            self.assertEqual(foreseen(other, WORLD), ((0, 2),))
            self.assertEqual([one.ended, other.ended, run.asked], [False, True, (3,)])
        self.assertEqual([one.ended, run.asked], [True, ()])
