"""Points 11 to 14: what is left out, drawn in and cut, also over one another."""

import unittest

from tests.kinds import PLAIN_RULES, SHAPE_RULES, WIDE_RULES
from tests.meaning import all_sets, check_rule, cut_meaning, drawn_meaning, less_meaning, raised
from unseenprices.counting import Firsts, Teams
from unseenprices.nets import Net
from unseenprices.shapes import Cut, Drawn, Less

FEW_RULES = [(rule, meaning) for rule, meaning in PLAIN_RULES if meaning.size <= 4]


def answers(rule):
    """Return which sets are free; rules with the same answers are the same as point 11 calls it."""
    return [rule.is_free(things) for things in all_sets(rule.size)]


class MeaningTest(unittest.TestCase):
    def test_left_out_and_drawn_in(self):
        for rule, meaning in FEW_RULES:
            for things in meaning.sets:
                check_rule(self, Less(rule, list(things)), less_meaning(meaning, things))
                check_rule(self, Drawn(rule, list(things)), drawn_meaning(meaning, things))

    def test_cut(self):
        for rule, meaning in PLAIN_RULES:
            for k in (0, 1, meaning.full, meaning.full + 1, 50):
                check_rule(self, Cut(rule, k), cut_meaning(meaning, k))

    def test_over_one_another(self):
        for rule, meaning in SHAPE_RULES:
            check_rule(self, rule, meaning)

    def test_ranks(self):
        for rule, meaning in FEW_RULES:
            for gone in meaning.sets:
                less, drawn = Less(rule, gone), Drawn(rule, gone)
                for things in meaning.sets:
                    rest = tuple(x for x in things if x not in gone)
                    more = tuple(sorted({*things, *gone}))
                    self.assertEqual(less.rank(things), meaning.ranks[rest])
                    self.assertEqual(drawn.rank(things), meaning.ranks[more] - meaning.ranks[gone])

    def test_lots(self):
        for rule, meaning in FEW_RULES:
            for gone in meaning.sets:
                rest = tuple(x for x in meaning.all if x not in gone)
                found = [x for x in meaning.free if len(x) == meaning.ranks[rest] and not {*x} & {*gone}]
                self.assertEqual(Less(rule, gone).lots(), sorted(found))
                fulls = [x for x in meaning.free if {*x} <= {*gone} and len(x) == meaning.ranks[gone]]
                for taken in fulls:
                    lots = [x for x in all_sets(rule.size) if not {*x} & {*gone}
                            and tuple(sorted({*x, *taken})) in meaning.lots]
                    self.assertEqual(Drawn(rule, gone).lots(), sorted(lots))


class LawsTest(unittest.TestCase):
    def test_twice_in_a_row(self):
        for rule, meaning in FEW_RULES:
            for one in meaning.sets:
                for other in meaning.sets:
                    plus = tuple(sorted({*one, *other}))
                    self.assertEqual(answers(Less(Less(rule, one), other)), answers(Less(rule, plus)))
                    self.assertEqual(answers(Drawn(Drawn(rule, one), other)), answers(Drawn(rule, plus)))
                    if not {*one} & {*other}:
                        self.assertEqual(answers(Drawn(Less(rule, one), other)), answers(Less(Drawn(rule, other), one)))

    def test_common_things(self):
        first = Drawn(Less(Firsts(2, 1), (0,)), (0,))
        second = Less(Drawn(Firsts(2, 1), (0,)), (0,))
        self.assertEqual([first.full, first.lots()], [1, [(1,)]])
        self.assertEqual([second.full, second.lots()], [0, [()]])

    def test_gone_things_are_dead(self):
        for rule, meaning in FEW_RULES:
            for gone in meaning.sets:
                self.assertLessEqual({*gone}, {*Less(rule, gone).dead()})
                self.assertLessEqual({*gone}, {*Drawn(rule, gone).dead()})

    def test_nothing_and_everything(self):
        for rule, meaning in PLAIN_RULES:
            self.assertEqual(answers(Less(rule, ())), answers(rule))
            self.assertEqual(answers(Drawn(rule, [])), answers(rule))
            self.assertEqual(Less(rule, meaning.all).lots(), [()])
            self.assertEqual(Drawn(rule, meaning.all).lots(), [()])
            self.assertEqual(Cut(rule, 0).lots(), [()])

    def test_sixteen_things_four_deep(self):
        for rule in WIDE_RULES:
            shape = Cut(Less(Drawn(Cut(rule, 7), (0, 3)), (1, 3)), 4)
            start = rule.rank((0, 3))
            for things in ((), (0, 1, 3), (2, 4, 5), tuple(range(rule.size)), tuple(range(4, 9))):
                rest = {x for x in things if x not in (0, 1, 3)}
                rank = min(7, rule.rank(tuple(sorted({*rest, 0, 3})))) - start
                self.assertEqual(shape.rank(things), min(4, rank))


class InterfaceTest(unittest.TestCase):
    def test_attributes(self):
        net = Net(3, ((0, 1), (1, 2), (0, 2)))
        gone = [0, 2]
        less, drawn, cut = Less(net, gone), Drawn(net, gone), Cut(net, 5)
        gone[0] = 1
        self.assertEqual([less.size, drawn.size, cut.size], [3, 3, 3])
        self.assertEqual([less.gone, drawn.gone, cut.most], [(0, 2), (0, 2), 5])
        for shape in (less, drawn, cut):
            self.assertIs(shape.rule, net)
        self.assertEqual([less.lots(), drawn.lots()], [[(1,)], [()]])

    def test_gone_is_of_this_call(self):
        outer = Less(Less(Teams((0, 0), (1,)), (0,)), (1,))
        self.assertEqual([outer.gone, outer.rule.gone], [(1,), (0,)])

    def test_bad_sets(self):
        for call in (Less, Drawn):
            for things, place in (((2,), 0), ((-1,), 0), ((0, 0), 1), ((1, 0), 1), ((0, None), 1), (("0",), 0)):
                self.assertEqual(raised(call, Firsts(2, 1), things), ("BadSet", {"place": place}))
                self.assertEqual(raised(call, Firsts(2, 1), list(things)), ("BadSet", {"place": place}))
            self.assertEqual(raised(call, Firsts(0, 1), (0,)), ("BadSet", {"place": 0}))

    def test_bad_numbers(self):
        for k in (-1, -20, None, "1", (1,)):
            self.assertEqual(raised(Cut, Firsts(2, 1), k), ("BadNumber", {"name": "k"}))
