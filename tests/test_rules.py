"""Points 1 to 5: what every class of rules answers, for the rule under which every set is free and over all kinds."""

import random
import unittest
from itertools import combinations

from tests.kinds import DEEP_RULES, SMALL_RULES, WIDE_RULES
from tests.meaning import Meaning, check_rule, check_swaps, raised
from unseenprices.counting import Firsts, Teams
from unseenprices.many import Many
from unseenprices.nets import Net
from unseenprices.rules import Rule, basis, check_lot, check_thing, swaps
from unseenprices.sums import Sum
from unseenprices.turned import Turned

LISTED = (
    "is_free", "is_lot", "rank", "span", "dead", "firm", "lots", "circuit", "blow_of", "exchanges", "__len__",
)


class RuleTest(unittest.TestCase):
    def test_meaning(self):
        for size in range(6):
            check_rule(self, Rule(size), Meaning(size, lambda things: True))

    def test_bad_sizes(self):
        for size in (-1, -10, None, "3", (3,)):
            self.assertEqual(raised(Rule, size), ("BadNumber", {"name": "size"}))

    def test_no_things(self):
        rule = Rule(0)
        self.assertEqual([rule.size, len(rule), rule.full, rule.lots()], [0, 0, 0, [()]])
        self.assertEqual([rule.dead(), rule.firm(), rule.exchanges(())], [(), (), []])
        self.assertEqual([rule.is_free([]), rule.is_lot(()), rule.rank(()), rule.span(())], [True, True, 0, ()])
        self.assertEqual([basis(rule, []), swaps(rule, (), []), check_lot(rule, [])], [(), [], ()])
        self.assertEqual(raised(rule.circuit, (), 0), ("BadThing", {"thing": 0}))
        self.assertEqual(raised(rule.blow_of, (), 0), ("BadThing", {"thing": 0}))

    def test_defined_in_the_class(self):
        for name in LISTED:
            self.assertTrue(callable(vars(Rule)[name]), name)
        self.assertIsInstance(vars(Rule)["full"], property)

    def test_every_kind_is_a_rule(self):
        for rule, _ in SMALL_RULES:
            self.assertIsInstance(rule, Rule)


class EveryRuleTest(unittest.TestCase):
    """What is asked of every class of rules, over examples of all of them."""

    def test_bad_sets(self):
        for rule, meaning in SMALL_RULES:
            n = meaning.size
            for things, place in (
                ((n,), 0), ((-1,), 0), ((None,), 0), (("0",), 0), ((*range(n), n), n), ((*range(n), n - 1), n),
                ([*range(n), None], n), ([*range(n), "9"], n), ([*range(n), -1], n),
            ):
                told = ("BadSet", {"place": place})
                for call in (rule.is_free, rule.is_lot, rule.rank, rule.span, rule.exchanges):
                    self.assertEqual(raised(call, things), told)
                for call in (rule.circuit, rule.blow_of):
                    self.assertEqual(raised(call, things, None), told)
                self.assertEqual(raised(check_lot, rule, things), told)
                self.assertEqual(raised(swaps, rule, things, None), told)
                self.assertEqual(raised(swaps, rule, meaning.lots[0], things), told)

    def test_twice_and_out_of_order(self):
        for rule, meaning in SMALL_RULES:
            if meaning.size >= 2:
                for things in ((0, 0), (1, 0), [1, 1], [1, 0, 5]):
                    for call in (rule.is_free, rule.is_lot, rule.rank, rule.span, rule.exchanges):
                        self.assertEqual(raised(call, things), ("BadSet", {"place": 1}))

    def test_bad_things(self):
        for rule, meaning in SMALL_RULES:
            for thing in (meaning.size, -1, None, "0", (0,), [0], 10 ** 5000):
                told = ("BadThing", {"thing": thing})
                self.assertEqual(raised(rule.circuit, meaning.lots[0], thing), told)
                self.assertEqual(raised(rule.blow_of, list(meaning.lots[0]), thing), told)
                self.assertEqual(raised(check_thing, rule, thing), told)

    def test_check_lot_and_check_thing(self):
        for rule, meaning in SMALL_RULES:
            for things in meaning.sets:
                if things in meaning.lots:
                    self.assertEqual(check_lot(rule, list(things)), things)
                else:
                    self.assertEqual(raised(check_lot, rule, list(things)), ("NotALot", {"things": things}))
            for thing in meaning.all:
                self.assertEqual(check_thing(rule, thing), thing)

    def test_basis(self):
        chance = random.Random(1)
        for rule, meaning in SMALL_RULES:
            for things in meaning.sets:
                row = list(things)
                chance.shuffle(row)
                given = tuple(row)
                taken = ()
                for thing in row:
                    if tuple(sorted((*taken, thing))) in meaning.free:
                        taken = tuple(sorted((*taken, thing)))
                self.assertEqual(basis(rule, row), taken)
                self.assertEqual(basis(rule, given), taken)
                self.assertEqual(tuple(row), given)
                self.assertEqual(len(taken), meaning.ranks[things])

    def test_swaps(self):
        for rule, meaning in SMALL_RULES:
            for lot in meaning.lots:
                for other in meaning.lots:
                    check_swaps(self, rule, swaps(rule, list(lot), other), lot, other)

    def test_swaps_of_what_is_no_lot(self):
        for rule, meaning in SMALL_RULES:
            for things in meaning.sets:
                if things not in meaning.lots:
                    told = ("NotALot", {"things": things})
                    self.assertEqual(raised(swaps, rule, list(things), (-1,)), told)
                    self.assertEqual(raised(swaps, rule, meaning.lots[-1], things), told)

    def test_lists_handed_out_are_new(self):
        for rule, meaning in SMALL_RULES:
            rule.lots().append(None)
            self.assertEqual(rule.lots(), meaning.lots)
            lot = meaning.lots[0]
            rule.exchanges(lot).append(None)
            self.assertEqual(rule.exchanges(lot), meaning.exchanges(lot))
            swaps(rule, lot, lot).append(None)
            self.assertEqual(swaps(rule, lot, lot), [])

    def test_lists_handed_in_stay(self):
        for rule, meaning in SMALL_RULES:
            lot = list(meaning.lots[0])
            for call in (rule.is_free, rule.is_lot, rule.rank, rule.span, rule.exchanges):
                call(lot)
            check_lot(rule, lot)
            self.assertEqual(tuple(lot), meaning.lots[0])

    def test_small_rules_have_dead_and_firm_things(self):
        self.assertTrue(any(meaning.dead() for _, meaning in SMALL_RULES))
        self.assertTrue(any(meaning.firm() for _, meaning in SMALL_RULES))

    def test_circuit_of_a_dead_thing(self):
        for rule, meaning in SMALL_RULES:
            for thing in meaning.dead():
                self.assertEqual(rule.circuit(meaning.lots[0], thing), (thing,))

    def test_spans_and_circuits(self):
        for rule, meaning in SMALL_RULES:
            for things in meaning.sets:
                closed = set(rule.span(things))
                for x in meaning.all:
                    if x not in things:
                        inside = {*things, x}
                        found = any(x in circuit and inside >= {*circuit} for circuit in meaning.circuits)
                        self.assertEqual(x in closed, found)


class LawsTest(unittest.TestCase):
    """The laws of points 3 to 5 for rules too big to go through, up to the sizes of 0.6."""

    def setUp(self):
        self.chance = random.Random(2)

    def some_sets(self, rule, many):
        return [
            tuple(x for x in range(rule.size) if self.chance.random() < part)
            for part in (0.2, 0.5, 0.8) for _ in range(many)
        ]

    def test_ranks(self):
        for rule in WIDE_RULES + DEEP_RULES:
            self.assertGreater(rule.size, 10)
            for one, other in combinations(self.some_sets(rule, 4), 2):
                plus = tuple(sorted({*one, *other}))
                shared = tuple(sorted({*one} & {*other}))
                self.assertLessEqual(rule.rank(plus) + rule.rank(shared), rule.rank(one) + rule.rank(other))
                self.assertTrue(0 <= rule.rank(one) <= len(one))
                self.assertEqual(rule.is_free(one), rule.rank(one) == len(one))

    def test_basis_in_any_order(self):
        for rule in WIDE_RULES + DEEP_RULES:
            for things in self.some_sets(rule, 3):
                row = list(things)
                self.chance.shuffle(row)
                taken = basis(rule, row)
                self.assertEqual(len(taken), rule.rank(things))
                self.assertTrue(rule.is_free(taken))

    def test_spans(self):
        for rule in WIDE_RULES + DEEP_RULES:
            for things in self.some_sets(rule, 2):
                closed = rule.span(things)
                self.assertLessEqual({*things}, {*closed})
                self.assertEqual([rule.rank(closed), rule.span(closed)], [rule.rank(things), closed])
                self.assertLessEqual({*closed}, {*rule.span(tuple(sorted({*things, 3})))})

    def test_lots(self):
        for rule in WIDE_RULES + DEEP_RULES:
            rows = [self.chance.sample(range(rule.size), rule.size) for _ in range(3)]
            found = [basis(rule, row) for row in rows]
            for lot in found:
                self.assertTrue(rule.is_lot(lot))
                self.assertLessEqual({*rule.firm()}, {*lot})
                self.assertFalse({*rule.dead()} & {*lot})
                for other in found:
                    check_swaps(self, rule, swaps(rule, lot, other), lot, other)
                self.check_exchanges(rule, lot)

    def check_exchanges(self, rule, lot):
        pairs = rule.exchanges(lot)
        outside = [x for x in range(rule.size) if x not in lot]
        for e in lot:
            for f in outside:
                swapped = tuple(sorted({*lot, f} - {e}))
                self.assertEqual((e, f) in pairs, rule.is_lot(swapped))
                self.assertEqual((e, f) in pairs, e in rule.circuit(lot, f))
                self.assertEqual((e, f) in pairs, f in rule.blow_of(lot, e))

    def test_too_many_for_lots(self):
        for rule in WIDE_RULES + DEEP_RULES:
            self.assertEqual(raised(rule.lots), ("TooMany", {"number": rule.size}))
        self.assertEqual(raised(Rule(11).lots), ("TooMany", {"number": 11}))

    def test_ten_things_are_not_too_many(self):
        self.assertEqual(Rule(10).lots(), [tuple(range(10))])
        self.assertEqual(Firsts(10, 3).lots(), list(combinations(range(10), 3)))
        self.assertEqual(len(Teams((0, 1) * 5, (2, 2)).lots()), 100)
        self.assertEqual(Turned(Firsts(10, 3)).lots(), list(combinations(range(10), 7)))
        self.assertEqual(Many(Firsts(10, 2), 3).lots(), list(combinations(range(10), 6)))
        self.assertEqual(len(Sum(Firsts(4, 2), Turned(Firsts(6, 4))).lots()), 6 * 15)
        self.assertEqual(raised(Sum(Firsts(5, 2), Rule(6)).lots), ("TooMany", {"number": 11}))

    def test_swaps_need_more_than_the_first_fit(self):
        # Thing 0 could take the only partner that thing 2 has.
        net = Net(4, ((0, 1), (0, 2), (1, 2), (0, 1), (0, 2), (2, 3)))
        for lot in net.lots():
            for other in net.lots():
                check_swaps(self, net, swaps(net, lot, other), lot, other)
