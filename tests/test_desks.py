"""Points 136 to 142 and 144: desks, their deeds, their news, and what they tell."""

import random
import unittest

from tests.asking import ASKINGS, COMPARED, NET, NOTES, OPEN, SMALL, WORLD
from tests.cases import CASES, price_in
from tests.kinds import DEEP_RULES, WIDE_RULES
from tests.knowing import is_true
from tests.meaning import raised, without_things
from tests.refusals import NO_PRICES, no_things, refuses_sets, refuses_things, refuses_worlds
from tests.test_depths import taken_without
from tests.test_surelots import wide_notes
from unseenprices.blows import least_blow
from unseenprices.choosing import lot_of
from unseenprices.counting import Firsts
from unseenprices.desks import Desk
from unseenprices.equals import safe_lot
from unseenprices.judging import verdicts
from unseenprices.nets import Net
from unseenprices.notes import Notes
from unseenprices.pairs import step
from unseenprices.papers import Told
from unseenprices.regrets import regret
from unseenprices.rules import Rule
from unseenprices.runs import Run
from unseenprices.sets import TOP
from unseenprices.shapes import Less
from unseenprices.surelots import sure_lot


def told_verdicts(case, notes, loss):
    """Return the verdicts, from the lots of all worlds that agree with the notes."""
    lots = [taken_without(case.meaning, world, loss) for world in case.worlds if notes.agrees(world)]
    found = []
    for x in case.meaning.all:
        having = [x in lot for lot in lots]
        word = "in" if all(having) else "unsettled" if any(having) else "out"
        found.append("lost" if x in loss else word)
    return found


def words_of(desk):
    return [desk.verdict_of(x) for x in range(desk.rule.size)]


def shown(desk):
    """Return all that a desk shows of itself but its length."""
    things = range(-1, desk.rule.size + 1)
    left = (desk.left.full, [desk.left.rank((x,)) for x in range(desk.rule.size)])
    return (desk.notes, desk.loss, words_of(desk), list(desk), [x in desk for x in things], desk.sure_now(), left)


def whole_of(desk):
    """Return all that a desk shows of itself, also how often its deeds can be taken back."""
    return (*shown(desk), len(desk))


def some_deed(chance, desk, world=None):
    """Return the name of a deed with arguments that mostly fit; they are true in the world, if one is given."""
    size = desk.rule.size
    name = chance.choice(("ask", "narrow", "compare", "lose", "lose", "regain"))
    x = chance.randrange(size)
    low, high = desk.notes.stretches[x]
    price = chance.randrange(low, high + 1) if world is None else world[x]
    if name == "ask":
        return name, (x, price)
    if name == "narrow":
        return name, (x, chance.randrange(low, price + 1), chance.randrange(price, high + 1))
    if name == "compare":
        row = [x, chance.randrange(size)]
        return name, tuple(row if world is None else sorted(row, key=lambda y: (world[y], y)))
    return name, (x,)


def fresh(rule, notes, loss):
    """Return a new desk with the same rule, notes and loss."""
    desk = Desk(rule, notes)
    for x in loss:
        desk.lose(x)
    return desk


class DeedsTest(unittest.TestCase):
    def test_every_small_rule(self):
        chance = random.Random(138)
        news = {}
        for case in CASES[::2]:
            if case.known.size == 0:
                continue
            desk = Desk(case.rule, case.notes)
            for _ in range(5):
                before, words = whole_of(desk), words_of(desk)
                name, given = some_deed(chance, desk)
                if raised(getattr(fresh(case.rule, desk.notes, desk.loss), name), *given) is not None:
                    # A call that raises leaves the desk as it was.
                    self.assertIsNotNone(raised(getattr(desk, name), *given))
                    self.assertEqual(whole_of(desk), before)
                    continue
                found = getattr(desk, name)(*given)
                self.assertEqual(len(desk), before[-1] + 1)
                self.check_deed(case, desk, before, name, given)
                self.check_news(desk, words, name, given, found)
                news.setdefault(name, []).append(len(found))
        self.assertTrue(all(len(found) > 100 and max(found) > 1 for found in news.values()))
        self.assertEqual(sorted(news), ["ask", "compare", "lose", "narrow", "regain"])

    def check_deed(self, case, desk, before, name, given):
        """Hold notes, loss and verdicts behind a deed against the notes' methods, all worlds, and a fresh desk."""
        notes, loss = before[0], before[1]
        if name == "lose":
            loss = tuple(sorted((*loss, *given)))
        elif name == "regain":
            loss = without_things(loss, given)
        else:
            notes = getattr(notes, name)(*given)
        self.assertEqual([desk.notes, desk.loss], [notes, loss])
        self.assertIs(desk.rule, case.rule)
        words = told_verdicts(case, notes, loss)
        self.assertEqual(words_of(desk), words)
        self.assertEqual(list(desk), [x for x in case.meaning.all if words[x] == "unsettled"])
        inside = [x for x in range(-3, case.known.size + 3) if x in desk]
        self.assertEqual(inside, [x for x in case.meaning.all if words[x] in ("in", "unsettled")])
        self.assertEqual(shown(desk), shown(fresh(case.rule, notes, loss)))

    def check_news(self, desk, before, name, given, found):
        """Hold the news against the verdicts ahead and behind, and against point 139."""
        words = words_of(desk)
        self.assertIsInstance(found, tuple)
        self.assertEqual(found, tuple(x for x in range(desk.rule.size) if words[x] != before[x]))
        if name not in ("lose", "regain"):
            self.assertTrue(all(before[x] == "unsettled" for x in found))
            return
        thing = given[0]
        self.assertIn(thing, found)
        stays, opens = ("in", {"unsettled", "in"}) if name == "lose" else ("out", {"unsettled", "out"})
        for x in range(desk.rule.size):
            if x != thing and before[x] == stays:
                self.assertEqual(words[x], stays)
            if x != thing and before[x] == "unsettled":
                self.assertIn(words[x], opens)
        if name == "lose" and before[thing] == "out":
            self.assertEqual(found, (thing,))

    def test_back(self):
        chance = random.Random(140)
        for case in CASES[::5]:
            desk = Desk(case.rule, case.notes)
            stands = [whole_of(desk)]
            for _ in range(12 if case.known.size else 0):
                if chance.random() < 0.4 and len(stands) > 1:
                    ahead = words_of(desk)
                    found = desk.back()
                    stands.pop()
                    words = words_of(desk)
                    self.assertEqual(found, tuple(x for x in case.meaning.all if words[x] != ahead[x]))
                    self.assertEqual(whole_of(desk), stands[-1])
                    continue
                name, given = some_deed(chance, desk)
                if raised(getattr(desk, name), *given) is None:
                    stands.append(whole_of(desk))
            while len(desk) > 0:
                desk.back()
                stands.pop()
                self.assertEqual(whole_of(desk), stands[-1])
            self.assertEqual(raised(desk.back), ("NothingBack", {}))
            self.assertEqual(whole_of(desk), stands[0])

    def test_true_to_a_world(self):
        # Point 144.
        chance = random.Random(144)
        for case in CASES[::4]:
            world = chance.choice(case.worlds)
            desk = Desk(case.rule, case.notes)
            for _ in range(8 if case.known.size else 0):
                name, given = some_deed(chance, desk, world)
                raised(getattr(desk, name), *given)
                self.assertTrue(desk.notes.agrees(world) and is_true(world, desk.notes.pairs))
                lot, words = lot_of(desk.left, world), words_of(desk)
                self.assertTrue(all(x in lot for x in case.meaning.all if words[x] == "in"))
                self.assertFalse(any(words[x] in ("out", "lost") for x in lot))
                self.assertIn(desk.sure_now(), (None, lot))
                if desk.notes.plain and desk.left.size <= 5:
                    for one in desk.left.lots()[::2]:
                        self.assertGreaterEqual(desk.regret_of(one), price_in(world, one) - price_in(world, lot))

    def test_deeds_that_change_nothing(self):
        notes = Notes(((0, 4), (5, 9), (3, 3)), pairs=((0, 1),))
        desk = Desk(Firsts(3, 1), notes)
        before = shown(desk)
        self.assertEqual([desk.ask(2, 3), desk.narrow(0, 0, 4), desk.compare(0, 1), desk.narrow(2, 3, 3)], [()] * 4)
        self.assertEqual([shown(desk), len(desk)], [before, 4])
        self.assertEqual([desk.back(), desk.back(), desk.back(), desk.back(), len(desk)], [(), (), (), (), 0])

    def test_a_deed_told_twice(self):
        desk = Desk(Firsts(2, 1), Notes(((0, 5), (3, 9))))
        self.assertEqual([desk.compare(0, 1), desk.compare(0, 1), desk.notes.pairs], [(0, 1), (), ((0, 1),)])
        self.assertEqual([desk.ask(0, 2), desk.ask(0, 2), len(desk)], [(), (), 4])
        self.assertEqual([desk.back(), desk.back(), desk.back(), desk.back()], [(), (), (), (0, 1)])

    def test_lost_things_are_asked_and_compared(self):
        desk = Desk(Firsts(3, 1), Notes(((0, 9), (2, 6), (4, 8))))
        self.assertEqual([desk.lose(0), desk.ask(0, 5), desk.compare(0, 2)], [(0,), (), ()])
        self.assertEqual([desk.notes.lows, desk.notes.highs, desk.notes.pairs], [(5, 2, 5), (5, 6, 8), ((0, 2),)])
        # What is known of a lost thing counts for the others.
        self.assertEqual([desk.narrow(1, 2, 5), words_of(desk)], [(1, 2), ["lost", "in", "out"]])
        self.assertEqual([desk.regain(0), words_of(desk)], [(0, 1), ["unsettled", "unsettled", "out"]])
        desk = Desk(Firsts(3, 1), Notes(((0, 9), (2, 6), (4, 8))))
        self.assertEqual([desk.lose(0), desk.narrow(0, 7, 8), desk.finish((7, 5, 4)), len(desk)], [(0,), (), (2,), 4])
        self.assertEqual([desk.notes.stretches, words_of(desk)], [((7, 8), (5, 5), (4, 4)), ["lost", "out", "in"]])

    def test_a_loss_that_is_a_blow(self):
        for rule in (NET, Firsts(5, 2), Firsts(5, 5)):
            desk = Desk(rule, NOTES)
            for x in least_blow(rule):
                desk.lose(x)
            self.assertEqual([desk.loss, desk.left.full], [least_blow(rule), rule.full - 1])
            lot = desk.finish(WORLD)
            self.assertEqual([lot, desk.sure_now(), len(lot)], [lot_of(desk.left, WORLD), lot, rule.full - 1])
            for x in without_things(range(5), desk.loss):
                desk.lose(x)
            self.assertEqual([desk.loss, desk.sure_now(), words_of(desk)], [(0, 1, 2, 3, 4), (), ["lost"] * 5])

    def test_edges(self):
        desk = Desk(Rule(0), Notes(()))
        self.assertEqual([desk.loss, len(desk), list(desk), desk.sure_now(), desk.finish(())], [(), 0, [], (), ()])
        self.assertEqual([desk.safe_now(), desk.step_now(), desk.regret_of(()), desk.fewest_in(())], [(), (), 0, 0])
        self.assertEqual(raised(desk.lose, 0), ("BadThing", {"thing": 0}))
        desk = Desk(Firsts(2, 0), Notes.unknown(2))
        self.assertEqual([words_of(desk), desk.sure_now(), desk.lose(1), len(desk)], [["out", "out"], (), (1,), 1])
        desk = Desk(Firsts(2, 2), Notes.unknown(2))
        self.assertEqual([words_of(desk), desk.lose(0), desk.sure_now()], [["in", "in"], (0,), (1,)])
        desk = Desk(Firsts(2, 1), Notes(((0, TOP), (0, TOP))))
        self.assertEqual([desk.ask(1, 0), words_of(desk)], [(), ["unsettled", "unsettled"]])
        self.assertEqual([desk.ask(0, 0), words_of(desk)], [(0, 1), ["in", "out"]])
        desk = Desk(Firsts(2, 1), Notes(((0, TOP), (0, TOP))))
        self.assertEqual([desk.ask(1, TOP), words_of(desk)], [(0, 1), ["in", "out"]])

    def test_the_very_rule(self):
        desk = Desk(NET, NOTES)
        self.assertIs(desk.rule, NET)
        self.assertEqual([desk.notes == NOTES, desk.loss, len(desk)], [True, (), 0])
        self.assertIsInstance(desk.left, Less)
        self.assertIs(desk.left.rule, NET)
        self.assertEqual([desk.lose(4), desk.left.gone, desk.loss], [(3, 4), (4,), (4,)])

    def test_example(self):
        desk = Desk(Net(4, NET.lines), NOTES)
        found = [list(desk), desk.lose(0), desk.ask(3, 1), desk.back(), desk.regain(0), desk.finish(WORLD), len(desk)]
        self.assertEqual(found, [[0, 2, 3, 4], (0, 2), (3, 4), (3, 4), (0, 2), (0, 1, 3), 5])


class TellingTest(unittest.TestCase):
    def test_as_the_functions_tell_of_the_rule_left(self):
        chance = random.Random(136)
        for asking in OPEN[::2]:
            case = asking.case
            things = tuple(x for x in case.meaning.all if chance.random() < 0.3)
            desk = fresh(case.rule, case.notes, things)
            left = Less(case.rule, things)
            self.assertEqual(desk.sure_now(), sure_lot(left, case.notes))
            self.assertEqual(desk.safe_now(), safe_lot(left, case.notes))
            self.assertEqual(desk.step_now(), step(left, case.notes))
            for lot in left.lots():
                self.assertEqual(desk.regret_of(list(lot)), regret(left, case.notes, lot))
            for world in case.worlds[::9]:
                self.assertEqual(desk.fewest_in(list(world)), Told(left, case.notes, world).fewest)

    def test_telling_is_no_deed(self):
        desk = fresh(NET, NOTES, (0,))
        before = whole_of(desk)
        for _ in range(2):
            desk.sure_now(), desk.safe_now(), desk.step_now(), desk.regret_of((1, 2, 3)), desk.fewest_in(WORLD)
            self.assertEqual([list(desk), 3 in desk, 9 in desk, desk.verdict_of(0)], [[3, 4], True, False, "lost"])
        self.assertEqual(whole_of(desk), before)

    def test_in_with_what_is_no_thing(self):
        desk = Desk(NET, NOTES)
        self.assertEqual([x in desk for x in range(5)], [True] * 5)
        for wrong in (*no_things(5), 0.0, 2.5, desk, {}):
            self.assertIs(wrong in desk, False)
        desk.lose(2)
        self.assertEqual([x in desk for x in range(5)], [True, True, False, True, True])
        desk.ask(3, 0)
        self.assertEqual([x in desk for x in range(5)], [True, True, False, True, False])

    def test_two_desks(self):
        # Point 141: what was done at a desk before makes no difference.
        chance = random.Random(141)
        for case in CASES[::6]:
            desk = Desk(case.rule, case.notes)
            for _ in range(9 if case.known.size else 0):
                name, given = some_deed(chance, desk)
                raised(getattr(desk, name), *given)
            if len(desk) > 2:
                desk.back()
            other = Desk(case.rule, desk.notes)
            for x in without_things(case.meaning.all, ()):
                other.lose(x)
            for x in without_things(case.meaning.all, desk.loss):
                other.regain(x)
            self.assertEqual(shown(other), shown(desk))


class FinishTest(unittest.TestCase):
    def test_every_small_rule(self):
        chance = random.Random(142)
        some = 0
        for asking in ASKINGS[::2]:
            case = asking.case
            things = tuple(x for x in case.meaning.all if chance.random() < 0.2)
            for world in case.worlds[::9]:
                desk = fresh(case.rule, case.notes, things)
                many, fewest = len(desk), desk.fewest_in(world)
                run = Run(desk.left, desk.notes)
                run.finish(world)
                self.assertEqual(desk.finish(list(world)), taken_without(case.meaning, world, things))
                asked = len(desk) - many
                self.assertTrue(fewest <= asked <= 2 * fewest)
                self.assertEqual([asked, desk.notes], [len(run.asked), run.notes])
                self.assertEqual([desk.sure_now(), list(desk)], [lot_of(desk.left, world), []])
                # Each ask is a deed of its own, in the order of the run.
                for x in run.asked[::-1]:
                    notes = desk.notes
                    desk.back()
                    self.assertEqual(desk.notes.ask(x, world[x]), notes)
                self.assertEqual([desk.notes == case.notes, desk.loss], [True, things])
                some += asked > 1
        self.assertGreater(some, 200)

    def test_a_step_of_two_is_asked_whole(self):
        desk = Desk(Firsts(2, 1), Notes(((0, 9), (5, 15))))
        self.assertEqual([desk.finish((2, 9)), len(desk), desk.notes.highs], [(0,), 2, (2, 9)])

    def test_where_a_lot_is_sure(self):
        desk = Desk(Firsts(2, 1), Notes(((0, 4), (5, 15))))
        self.assertEqual([desk.finish((2, 9)), len(desk)], [(0,), 0])

    def test_errors(self):
        desk = fresh(NET, NOTES, (0,))
        before = whole_of(desk)
        for name in ("finish", "fewest_in"):
            refuses_worlds(self, 5, getattr(desk, name))
            self.assertEqual(raised(getattr(desk, name), [2, 2, 9, 1, 4]), ("NotAgreeing", {"thing": 2}))
        self.assertEqual(whole_of(desk), before)
        world = list(WORLD)
        desk.fewest_in(world)
        desk.finish(world)
        self.assertEqual(world, list(WORLD))


class ErrorsTest(unittest.TestCase):
    def setUp(self):
        self.desk = fresh(NET, NOTES.compare(0, 2), (4,))
        self.desk.ask(3, 2)
        self.before = whole_of(self.desk)

    def tearDown(self):
        # A call that raises leaves the desk as it was.
        self.assertEqual(whole_of(self.desk), self.before)

    def test_made(self):
        for size in (0, 4, 6):
            self.assertEqual(raised(Desk, NET, Notes.unknown(size)), ("OtherSize", {"size": size}))
        self.assertEqual(raised(Desk, SMALL, COMPARED), ("OtherSize", {"size": 5}))
        self.assertIsNone(raised(Desk, NET, COMPARED))

    def test_things(self):
        desk = self.desk
        for call in (desk.lose, desk.regain, desk.verdict_of):
            refuses_things(self, 5, call)
        refuses_things(self, 5, lambda thing: desk.ask(thing, None))
        refuses_things(self, 5, lambda thing: desk.narrow(thing, None, None))
        refuses_things(self, 5, lambda thing: desk.compare(thing, None))
        refuses_things(self, 5, lambda thing: desk.compare(0, thing))

    def test_lost_and_not_lost(self):
        desk = self.desk
        self.assertEqual(raised(desk.lose, 4), ("IsLost", {"thing": 4}))
        for x in range(4):
            self.assertEqual(raised(desk.regain, x), ("NotLost", {"thing": x}))

    def test_what_the_notes_raise(self):
        desk = self.desk
        for wrong in (*NO_PRICES, 0, 5):
            self.assertEqual(raised(desk.ask, 0, wrong), ("BadStretch", {"thing": 0}))
        for low, high in ((0, 2), (2, 5), (3, 2), (None, 2), (2, "3"), (-1, TOP + 1)):
            self.assertEqual(raised(desk.narrow, 0, low, high), ("BadStretch", {"thing": 0}))
        self.assertEqual(raised(desk.compare, 1, 1), ("BadPair", {"place": 0}))
        self.assertEqual(raised(desk.compare, 2, 0)[0], "NotGood")
        self.assertEqual(raised(desk.compare, 4, 3), ("NotGood", {"row": (4, 3)}))
        self.assertIsNone(raised(Desk(NET, NOTES).narrow, 0, 1, 4))

    def test_not_plain(self):
        desk = self.desk
        self.assertEqual(raised(desk.safe_now), ("NotPlain", {}))
        self.assertEqual(raised(desk.step_now), ("NotPlain", {}))
        for call in (desk.regret_of, desk.fewest_in, desk.finish):
            for wrong in (None, (9,), ()):
                self.assertEqual(raised(call, wrong), ("NotPlain", {}))
        self.assertEqual(desk.sure_now(), (0, 1, 3))

    def test_lots(self):
        desk = fresh(NET, NOTES, (4,))
        refuses_sets(self, 5, desk.regret_of)
        for wrong in ((), (0, 1), (0, 1, 4), (0, 1, 2)):
            self.assertEqual(raised(desk.regret_of, list(wrong)), ("NotALot", {"things": wrong}))

    def test_nothing_back(self):
        desk = Desk(NET, NOTES)
        for _ in range(2):
            self.assertEqual(raised(desk.back), ("NothingBack", {}))
        desk.lose(0)
        self.assertEqual([desk.back(), raised(desk.back), len(desk)], [(0, 2), ("NothingBack", {}), 0])


class WideTest(unittest.TestCase):
    def test_two_hundred_deeds(self):
        chance = random.Random(200)
        for place, rule in enumerate(WIDE_RULES[::2] + DEEP_RULES[::20]):
            desk = Desk(rule, wide_notes(rule.size, place, 3))
            words = [words_of(desk)]
            while len(desk) < 200:
                name, given = some_deed(chance, desk)
                # Most things stay unseen, and comparisons below a bound of 60.
                if name in ("ask", "narrow") and chance.random() < 0.8:
                    continue
                if name == "compare" and len(desk.notes.pairs) > 50:
                    continue
                if raised(getattr(desk, name), *given) is None:
                    words.append(words_of(desk))
            self.assertEqual(shown(desk), shown(fresh(rule, desk.notes, desk.loss)))
            told = verdicts(Less(rule, desk.loss), desk.notes)
            self.assertEqual(words[-1], ["lost" if x in desk.loss else told[x] for x in range(rule.size)])
            while len(desk) > 0:
                desk.back()
                words.pop()
                self.assertEqual(words_of(desk), words[-1])

    def test_finishing_sixteen_things(self):
        for place, rule in enumerate(WIDE_RULES + DEEP_RULES[::4]):
            notes = wide_notes(rule.size, place, 0)
            desk = fresh(rule, notes, (1, 4, 9))
            world = notes.latest(3)
            fewest = desk.fewest_in(world)
            self.assertEqual(desk.finish(world), lot_of(Less(rule, (1, 4, 9)), world))
            self.assertTrue(fewest <= len(desk) - 3 <= 2 * fewest)
