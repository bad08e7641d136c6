"""Points 119 to 122: losses, blows and strengths."""

import unittest

from tests.asking import NET, lean
from tests.kinds import DEEP_RULES, PLAIN_RULES, SMALL_RULES, SUM_RULES, WIDE_RULES
from tests.meaning import raised, turned_of, without_things
from tests.refusals import NO_COUNTS, refuses_sets
from unseenprices.blows import bears, is_blow, lean_blows, least_blow, missing, strength
from unseenprices.columns import Columns
from unseenprices.connected import parts
from unseenprices.counting import Firsts, Teams, Works
from unseenprices.covering import most_apart
from unseenprices.many import Many
from unseenprices.nets import Net
from unseenprices.rules import Rule
from unseenprices.shapes import Cut, Drawn, Less
from unseenprices.sums import Sum
from unseenprices.turned import Turned


def blows_of(meaning):
    """Return all blows, fewer things first: the sets that have a thing of every lot."""
    return [things for things in meaning.sets if all({*things} & {*lot} for lot in meaning.lots)]


def least_or_none(found):
    return min((len(things) for things in found), default=None)


def rules_of_twelve():
    """Return rules of each kind with 12 things, and shapes up to four deep over them."""
    wheel = Net(7, [(x, (x + 1) % 6) for x in range(6)] + [(x, 6) for x in range(6)])
    plain = [
        Rule(12), Firsts(12, 1), Firsts(12, 6), Firsts(12, 12), Teams((0, 1, 2) * 4, (1, 2, 3)), wheel,
        Works((1, 2, 3, 3, 3, 4, 4, 7, 7, 8, 9, 0)),
        Columns(3, [(x % 3, x // 3 % 3, x * x % 3, 1) for x in range(12)]),
        Sum(Firsts(6, 2), Net(3, [(0, 1), (1, 2)] * 3)),
    ]
    shapes = []
    for rule in plain:
        shapes += [
            Many(Turned(Many(Turned(rule), 2)), 2), Turned(Less(Many(Drawn(rule, (2,)), 2), (1, 7))),
            Many(Cut(Many(Cut(rule, 2), 2), 3), 2),
        ]
    return plain + shapes


TWELVE = rules_of_twelve()


class BlowTest(unittest.TestCase):
    def test_every_set(self):
        for rule, meaning in SMALL_RULES:
            blows = {*blows_of(meaning)}
            for things in meaning.sets:
                self.assertIs(is_blow(rule, list(things)), things in blows)
                found = missing(rule, list(things))
                self.assertEqual(found is None, things in blows)
                if found is not None:
                    self.assertIn(found, meaning.lots)
                    self.assertFalse({*found} & {*things})

    def test_lean_and_least(self):
        for rule, meaning in SMALL_RULES:
            blows = blows_of(meaning)
            found = lean_blows(rule)
            self.assertIsInstance(found, list)
            self.assertEqual(found, lean(blows))
            self.assertEqual(least_blow(rule), blows[0] if blows else None)
            self.assertEqual(strength(rule), least_or_none(blows))

    def test_lean_blows_are_the_sets_d(self):
        # Point 119: D(B, e) has all things outside the span of B - e.
        for rule, meaning in SMALL_RULES[::3]:
            found = set()
            for lot in meaning.lots:
                for e in lot:
                    span = meaning.span(without_things(lot, (e,)))
                    self.assertEqual(meaning.blow_of(lot, e), without_things(meaning.all, span))
                    found.add(meaning.blow_of(lot, e))
            self.assertEqual(lean_blows(rule), sorted(found))

    def test_bears(self):
        for rule, meaning in SMALL_RULES:
            blows = blows_of(meaning)
            for number in range(meaning.size + 2):
                told = not any(len(things) <= number for things in blows)
                self.assertIs(bears(rule, number), told)

    def test_examples(self):
        self.assertEqual([least_blow(NET), strength(NET)], [(0, 1), 2])
        self.assertEqual(lean_blows(NET), [(0, 1), (0, 2), (1, 2), (3, 4)])
        self.assertEqual([is_blow(NET, (3, 4)), missing(NET, (3, 4)), missing(NET, (0,))], [True, None, (1, 2, 3)])
        self.assertEqual([bears(NET, number) for number in (0, 1, 2, 10 ** 30)], [True, True, False, False])

    def test_edges(self):
        for rule in (Rule(0), Firsts(3, 0), Works((0, 0))):
            self.assertEqual([least_blow(rule), strength(rule), lean_blows(rule)], [None, None, []])
            self.assertEqual([bears(rule, 0), bears(rule, 99)], [True, True])
            whole = tuple(range(rule.size))
            self.assertEqual([is_blow(rule, whole), missing(rule, whole), is_blow(rule, ())], [False, (), False])
        # A firm thing alone is a blow, dead things never are.
        rule = Sum(Rule(1), Firsts(2, 0))
        self.assertEqual([least_blow(rule), lean_blows(rule), is_blow(rule, (1, 2))], [(0,), [(0,)], False])
        self.assertEqual([is_blow(rule, ()), is_blow(rule, (0, 1, 2)), missing(rule, [1, 2])], [False, True, (0,)])
        self.assertEqual([bears(rule, 0), bears(rule, 1)], [True, False])

    def test_errors(self):
        for call in (is_blow, missing):
            for size in (0, 3):
                refuses_sets(self, size, lambda things: call(Firsts(size, 1), things))
        for wrong in NO_COUNTS:
            self.assertEqual(raised(bears, NET, wrong), ("BadNumber", {"name": "number"}))
            self.assertEqual(raised(bears, Rule(0), wrong), ("BadNumber", {"name": "number"}))

    def test_too_many(self):
        self.assertEqual(len(lean_blows(Firsts(10, 5))), 210)
        for rule in (Firsts(11, 0), Rule(12), Net(2, [(0, 1)] * 16)):
            self.assertEqual(raised(lean_blows, rule), ("TooMany", {"number": rule.size}))

    def test_new_lists(self):
        things = [3, 4]
        lean_blows(NET).append(None)
        self.assertEqual(len(lean_blows(NET)), 4)
        is_blow(NET, things)
        missing(NET, things)
        self.assertEqual(things, [3, 4])


class StrengthTest(unittest.TestCase):
    def test_as_point_120_words_it(self):
        for rule, meaning in SMALL_RULES:
            if meaning.full == 0:
                self.assertIsNone(strength(rule))
            else:
                most = max(len(things) for things in meaning.sets if meaning.ranks[things] == meaning.full - 1)
                self.assertEqual(strength(rule), meaning.size - most)

    def test_firsts(self):
        for n in range(1, 9):
            self.assertEqual([strength(Firsts(n, k)) for k in range(1, n + 1)], list(range(n, 0, -1)))

    def test_sums(self):
        for rule, _ in SUM_RULES:
            found = [strength(one) for one in rule.rules if strength(one) is not None]
            self.assertEqual(strength(rule), min(found, default=None))

    def test_part_by_part(self):
        for rule, meaning in SMALL_RULES[::2]:
            found = [
                strength(Less(rule, without_things(meaning.all, part))) for part in parts(rule)
                if meaning.ranks[part] >= 1
            ]
            self.assertEqual(strength(rule), min(found) if meaning.full >= 1 else None)

    def test_turned(self):
        # Point 121: the blows of the turned rule are the turned sets that have a circuit.
        for rule, meaning in PLAIN_RULES:
            turned = Turned(rule)
            self.assertEqual(strength(turned), least_or_none(meaning.circuits))
            for things in meaning.sets:
                inside = any({*circuit} <= {*turned_of(meaning.size, things)} for circuit in meaning.circuits)
                self.assertIs(is_blow(turned, things), inside)

    def test_lots_apart(self):
        # Point 122, and the one rule of up to three things that is left out there.
        some = 0
        for rule, meaning in SMALL_RULES:
            if meaning.full >= 1:
                many = most_apart(rule)
                self.assertGreaterEqual(strength(rule), many)
                self.assertTrue(bears(rule, many - 1))
                same = meaning.size == 3 and meaning.lots == [(0, 1), (0, 2), (1, 2)]
                if meaning.size <= 3:
                    self.assertEqual(strength(rule) == many, not same)
                    some += same
        self.assertGreater(some, 3)
        self.assertEqual([strength(Firsts(3, 2)), most_apart(Firsts(3, 2))], [2, 1])

    def test_twelve_things(self):
        for rule in TWELVE:
            found = least_blow(rule)
            self.assertEqual(found is None, rule.full == 0)
            if found is not None:
                self.assertEqual(strength(rule), len(found))
                self.assertIs(is_blow(rule, found), True)
                self.assertFalse(any(is_blow(rule, without_things(found, (x,))) for x in found))
                self.assertEqual([bears(rule, len(found) - 1), bears(rule, len(found))], [True, False])

    def test_sixteen_things(self):
        for rule in WIDE_RULES + DEEP_RULES[::4]:
            whole = tuple(range(rule.size))
            for things in (whole[::2], whole[:5], whole[9:], whole):
                found = missing(rule, things)
                self.assertIs(is_blow(rule, things), found is None)
                self.assertEqual(found is None, rule.rank(without_things(whole, things)) < rule.full)
                if found is not None:
                    self.assertTrue(rule.is_lot(found) and not {*found} & {*things})
