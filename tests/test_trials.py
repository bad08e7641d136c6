"""Point 143: trials."""

import random
import unittest

from tests.asking import NET, NOTES, WORLD
from tests.cases import CASES
from tests.kinds import WIDE_RULES
from tests.meaning import raised
from tests.test_desks import some_deed, whole_of, words_of
from tests.test_surelots import wide_notes
from unseenprices.counting import Firsts
from unseenprices.desks import Desk
from unseenprices.notes import Notes
from unseenprices.rules import Rule
from unseenprices.sets import TOP
from unseenprices.trials import Trial, tried

# Entries that are no calls.
NO_CALLS = (
    None, 5, "ask", "back", ["back"], ["ask", 0, 1], (), ("ask",), ("ask", 0), ("ask", 0, 1, 2), ("narrow", 0, 1),
    ("narrow", 0, 1, 2, 3), ("compare", 0), ("compare", 0, 1, 2), ("lose",), ("lose", 0, 1), ("regain",),
    ("regain", 0, 1), ("back", 0), ("Back",), ("finish", (2, 2, 5, 1, 4)), ("sure_now",), ("__init__", 0, 1), (None,),
    (0, 1, 2), (["ask"], 0, 1), ({}, 0), (("back",),), {"back": ()}, ("",), ("turn_to", 0),
)


def one_desk():
    """Return a desk with four deeds, of which one has been taken back."""
    desk = Desk(NET, NOTES)
    desk.lose(4)
    desk.ask(3, 2)
    desk.compare(0, 2)
    desk.back()
    return desk


class TrialTest(unittest.TestCase):
    def test_every_small_rule(self):
        chance = random.Random(143)
        for case in CASES[::5]:
            desk = Desk(case.rule, case.notes)
            for _ in range(3 if case.known.size else 0):
                name, given = some_deed(chance, desk)
                raised(getattr(desk, name), *given)
            before = whole_of(desk)
            trial = Trial(desk)
            with trial as held:
                self.assertIs(held, desk)
                for _ in range(4 if case.known.size else 0):
                    name, given = some_deed(chance, desk) if chance.random() < 0.7 else ("back", ())
                    raised(getattr(held, name), *given)
            self.assertEqual(whole_of(desk), before)
            self.assertIs(trial.ended, True)
            while len(desk):
                desk.back()
            self.assertEqual([desk.notes == case.notes, desk.loss], [True, ()])

    def test_attributes(self):
        desk = one_desk()
        trial = Trial(desk)
        self.assertIs(trial.desk, desk)
        self.assertIs(trial.ended, False)
        with trial:
            self.assertIs(trial.ended, False)
        self.assertIs(trial.ended, True)
        self.assertIs(trial.desk, desk)

    def test_deeds_from_ahead_of_it_are_taken_back(self):
        desk = one_desk()
        before = whole_of(desk)
        with Trial(desk):
            desk.lose(0)
            self.assertEqual([desk.back(), desk.back(), desk.back()], [(0, 2), (), (3, 4)])
            self.assertEqual([len(desk), desk.notes == NOTES, desk.loss], [0, True, ()])
            desk.lose(1)
        self.assertEqual(whole_of(desk), before)
        self.assertEqual([desk.back(), desk.back(), len(desk)], [(), (3, 4), 0])

    def test_made_before_and_entered_behind_other_deeds(self):
        desk = Desk(NET, NOTES)
        trial = Trial(desk)
        desk.lose(0)
        before = whole_of(desk)
        with trial as held:
            held.regain(0)
            held.ask(3, 0)
        self.assertEqual([whole_of(desk), len(desk)], [before, 1])

    def test_an_error_leaves_the_block(self):
        desk = one_desk()
        before = whole_of(desk)
        trial = Trial(desk)
        with self.assertRaises(KeyError):
            with trial as held:
                held.lose(0)
                raise KeyError(0)
        self.assertEqual([whole_of(desk), trial.ended], [before, True])
        trial = Trial(desk)
        self.assertEqual(raised(self.lose_twice, trial), ("IsLost", {"thing": 1}))
        self.assertEqual([whole_of(desk), trial.ended], [before, True])

    def lose_twice(self, trial):
        with trial as held:
            held.lose(1)
            held.lose(1)

    def test_entered_again(self):
        desk = one_desk()
        before = whole_of(desk)
        trial = Trial(desk)
        with trial:
            desk.lose(0)
            inside = whole_of(desk)
            self.assertEqual(raised(trial.__enter__), ("Closed", {}))
            self.assertEqual(raised(self.lose_twice, trial), ("Closed", {}))
            self.assertEqual(raised(tried, trial, []), ("Closed", {}))
            self.assertEqual([whole_of(desk), trial.ended], [inside, False])
        self.assertEqual([whole_of(desk), trial.ended], [before, True])
        desk.lose(1)
        after = whole_of(desk)
        self.assertEqual(raised(trial.__enter__), ("Closed", {}))
        self.assertEqual(raised(self.lose_twice, trial), ("Closed", {}))
        self.assertEqual([whole_of(desk), trial.ended], [after, True])

    def test_one_within_another(self):
        desk = one_desk()
        before = whole_of(desk)
        with Trial(desk):
            desk.lose(0)
            inside = whole_of(desk)
            with Trial(desk) as held:
                held.back()
                held.back()
                held.lose(2)
                self.assertEqual([desk.loss, len(desk)], [(2, 4), 2])
            self.assertEqual(whole_of(desk), inside)
            self.assertEqual(desk.back(), (0, 2))
        self.assertEqual(whole_of(desk), before)

    def test_two_desks(self):
        one, other = one_desk(), one_desk()
        with Trial(one), Trial(other):
            one.lose(0)
            other.lose(1)
            self.assertEqual([one.loss, other.loss], [(0, 4), (1, 4)])
        self.assertEqual([one.loss, other.loss], [(4,), (4,)])

    def test_finishing_within_a_trial(self):
        desk = Desk(NET, NOTES)
        with Trial(desk) as held:
            self.assertEqual([held.finish(WORLD), len(held)], [(0, 1, 3), 3])
        self.assertEqual([len(desk), desk.sure_now(), desk.notes == NOTES], [0, None, True])


class TriedTest(unittest.TestCase):
    def test_every_small_rule(self):
        chance = random.Random(5)
        for case in CASES[::4]:
            if case.known.size == 0:
                continue
            desk, twin = Desk(case.rule, case.notes), Desk(case.rule, case.notes)
            desk.lose(0)
            twin.lose(0)
            before = whole_of(desk)
            deeds, news = [], []
            for _ in range(4):
                name, given = some_deed(chance, twin) if chance.random() < 0.8 or len(twin) == 0 else ("back", ())
                ahead = words_of(twin)
                if raised(getattr(twin, name), *given) is None:
                    deeds.append((name, *given))
                    words = words_of(twin)
                    news.append(tuple(x for x in case.meaning.all if words[x] != ahead[x]))
            trial = Trial(desk)
            found = tried(trial, deeds if chance.random() < 0.5 else tuple(deeds))
            self.assertIsInstance(found, tuple)
            self.assertEqual(found, (news, words_of(twin)))
            self.assertEqual([whole_of(desk), trial.ended], [before, True])

    def test_examples(self):
        desk = Desk(Firsts(2, 1), Notes(((0, 1), (0, 0))))
        trial = Trial(desk)
        found = [tried(trial, [("ask", 0, 1), ("lose", 0)]), trial.ended, len(desk), list(desk)]
        self.assertEqual(found, [([(0, 1), (0,)], ["lost", "in"]), True, 0, [0, 1]])
        desk = one_desk()
        deeds = (("narrow", 0, 2, 3), ("compare", 0, 2), ("lose", 2), ("regain", 4), ("back",), ("back",), ("back",))
        news, words = tried(Trial(desk), deeds)
        self.assertEqual(news, [(0, 2), (), (2,), (4,), (4,), (2,), ()])
        self.assertEqual([words, len(desk)], [["in", "in", "out", "in", "lost"], 2])
        self.assertEqual(tried(Trial(desk), ()), ([], words_of(desk)))
        self.assertEqual(tried(Trial(Desk(Rule(0), Notes(()))), []), ([], []))

    def test_entries_that_are_no_calls(self):
        desk = one_desk()
        before = whole_of(desk)
        for wrong in NO_CALLS:
            trial = Trial(desk)
            self.assertEqual(raised(tried, trial, [wrong]), ("BadEntry", {"place": 0}))
            deeds = (("lose", 0), ("back",), wrong, None)
            self.assertEqual(raised(tried, trial, deeds), ("BadEntry", {"place": 2}))
            # The trial has not been entered.
            self.assertEqual([trial.ended, whole_of(desk)], [False, before])
            self.assertEqual(tried(trial, [("lose", 0), ("back",)])[0], [(0, 2), (0, 2)])

    def test_closed_comes_next(self):
        desk = one_desk()
        trial = Trial(desk)
        tried(trial, [])
        self.assertEqual(raised(tried, trial, [("lose", 9), None]), ("BadEntry", {"place": 1}))
        self.assertEqual(raised(tried, trial, [("lose", 9)]), ("Closed", {}))

    def test_what_a_call_raises(self):
        for entry, told in (
            (("lose", 9), ("BadThing", {"thing": 9})), (("lose", None), ("BadThing", {"thing": None})),
            (("lose", 4), ("IsLost", {"thing": 4})), (("regain", 1), ("NotLost", {"thing": 1})),
            (("ask", 0, TOP), ("BadStretch", {"thing": 0})), (("ask", 0, None), ("BadStretch", {"thing": 0})),
            (("narrow", 2, 6, 3), ("BadStretch", {"thing": 2})), (("compare", 1, 1), ("BadPair", {"place": 0})),
            (("compare", 4, 1), ("NotGood", {"row": (4, 1)})), (("back",), None),
        ):
            desk = one_desk()
            before = whole_of(desk)
            trial = Trial(desk)
            self.assertEqual(raised(tried, trial, [("lose", 0), entry, ("back",)]), told)
            self.assertEqual([trial.ended, whole_of(desk)], [True, before])
        trial = Trial(one_desk())
        self.assertEqual(raised(tried, trial, [("back",)] * 3), ("NothingBack", {}))
        self.assertIs(trial.ended, True)

    def test_one_within_another(self):
        desk = one_desk()
        before = whole_of(desk)
        with Trial(desk) as held:
            held.lose(0)
            inside = whole_of(desk)
            self.assertEqual(tried(Trial(held), [("back",), ("back",)])[0], [(0, 2), ()])
            self.assertEqual(whole_of(desk), inside)
        self.assertEqual(whole_of(desk), before)

    def test_new_lists(self):
        desk, deeds = one_desk(), [("lose", 0)]
        news, words = tried(Trial(desk), deeds)
        news.append(None)
        words.append(None)
        self.assertEqual(tried(Trial(desk), deeds), ([(0, 2)], ["lost", "in", "in", "in", "lost"]))
        self.assertEqual([deeds, len(words_of(desk))], [[("lose", 0)], 5])

    def test_sixteen_things(self):
        chance = random.Random(16)
        for place, rule in enumerate(WIDE_RULES):
            desk = Desk(rule, wide_notes(rule.size, place, 20))
            deeds = [("lose", x) for x in chance.sample(range(rule.size), 6)]
            deeds = deeds + [("back",)] * 3 + [(name, x) for name, x in deeds[3:]]
            news, words = tried(Trial(desk), deeds)
            self.assertEqual([len(news), words.count("lost"), len(desk)], [12, 6, 0])
            self.assertEqual(news[3:6], news[9:])
