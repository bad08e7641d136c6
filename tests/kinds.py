"""Examples of every kind of rule: small ones with their meanings, and big ones up to the sizes of point 0.6."""

import random
from itertools import product

from tests.meaning import (
    Meaning, all_sets, columns_test, cut_meaning, drawn_meaning, firsts_test, less_meaning, net_test, teams_test,
    told_test, works_test,
)
from unseenprices.columns import Columns
from unseenprices.counting import Firsts, Teams, Works
from unseenprices.nets import Net
from unseenprices.rules import Rule
from unseenprices.shapes import Cut, Drawn, Less
from unseenprices.toldlots import ToldLots

FIRSTS = tuple((size, k) for size in range(6) for k in range(size + 2)) + ((3, 100),)

TEAMS = (
    ((), ()), ((), (3, 0)), ((0,), (0,)), ((0, 0, 0), (2,)), ((0, 1, 0, 1), (1, 1)), ((2, 0, 2, 0, 2), (1, 0, 2)),
    ((1, 1, 3), (5, 2, 9, 1)), ((0, 1, 2, 0, 1, 2), (1, 1, 2)), ((0, 0, 1, 1, 1), (7, 1)),
)

WORKS = (
    (), (0,), (1,), (5,), (0, 0, 0), (1, 1, 2), (3, 1, 3, 1), (2, 2, 2, 2), (4, 3, 2, 1), (1, 0, 3, 3, 3),
    (2, 9, 1, 2, 0), (1, 2, 2, 4, 4),
)

NETS = (
    (0, ()), (1, ()), (5, ()), (1, ((0, 0),)), (1, ((0, 0), (0, 0))), (2, ((0, 1), (1, 0))), (3, ((0, 1), (1, 2))),
    (3, ((0, 1), (1, 2), (2, 0))), (4, ((0, 1), (1, 2), (0, 2), (2, 3), (2, 3))),
    (4, ((3, 0), (0, 0), (0, 1), (1, 2), (2, 3), (3, 1))), (4, ((0, 1), (0, 2), (0, 3), (1, 2), (1, 3), (2, 3))),
    (6, ((0, 1), (1, 0), (2, 3), (3, 4), (4, 2))), (3, ((0, 1), (0, 2), (1, 2), (0, 1), (0, 2), (1, 2))),
)

COLUMNS = (
    (2, ()), (5, ((),)), (3, ((), (), ())), (2, ((0, 0), (0, 0))), (2, ((1,), (1,), (0,))),
    (2, ((1, 0, 0), (0, 1, 0), (1, 1, 0), (0, 0, 1), (1, 1, 1))), (3, ((1, 2), (2, 1), (1, 1), (0, 0), (0, 2))),
    (5, ((1, 2), (2, 4), (3, 3), (4, 0), (0, 1))), (5, ((2, 0, 4), (3, 0, 1), (1, 1, 1), (4, 1, 3))),
    (3, ((1, 1, 1), (1, 2, 0), (0, 2, 2), (2, 0, 1))), (2, ((1, 1, 0), (0, 1, 1), (1, 0, 1))),
    (3, ((1, 1, 0), (0, 1, 1), (1, 0, 1))),
)

TOLD = (
    (0, ((),)), (3, ((),)), (1, ((0,),)), (2, ((1,), (0,))), (3, ((0, 2), (0, 1))), (4, ((1, 2, 3),)),
    (4, ((0, 1), (0, 2), (0, 3), (1, 2), (1, 3))), (4, tuple(product((0, 1), (2, 3)))),
    (4, ((2, 3), (0, 1), (1, 3), (0, 2), (0, 3), (1, 2))), (5, ((0, 3, 4), (0, 1, 4), (0, 1, 3))),
)


def counting_rules():
    found = [(Rule(size), Meaning(size, lambda things: True)) for size in (0, 1, 4)]
    found += [(Firsts(size, k), Meaning(size, firsts_test(k))) for size, k in FIRSTS]
    found += [(Teams(*row), Meaning(len(row[0]), teams_test(*row))) for row in TEAMS]
    found += [(Works(days), Meaning(len(days), works_test(days))) for days in WORKS]
    return found


def told_rules():
    found = [(ToldLots(size, lots), Meaning(size, told_test(lots))) for size, lots in TOLD]
    for row in NETS[8:10]:
        lots = Net(*row).lots()[::-1]
        found.append((ToldLots(len(row[1]), lots), Meaning(len(row[1]), told_test(lots))))
    return found


def plain_rules():
    """Return examples of all kinds but the shapes, each with its meaning."""
    found = counting_rules()
    found += [(Net(*row), Meaning(len(row[1]), net_test(row[1]))) for row in NETS]
    found += [(Columns(*row), Meaning(len(row[1]), columns_test(*row))) for row in COLUMNS]
    return found + told_rules()


def shaped(rule, meaning, word, given):
    """Return the shape that the word names over a rule, with its meaning."""
    if word == "less":
        return Less(rule, given), less_meaning(meaning, given)
    if word == "drawn":
        return Drawn(rule, given), drawn_meaning(meaning, given)
    return Cut(rule, given), cut_meaning(meaning, given)


def some_given(chance, size, word):
    if word == "cut":
        return chance.randrange(size + 2)
    return tuple(x for x in range(size) if chance.random() < 0.3)


def shape_rules(rules):
    """Return shapes over the rules, up to four deep, each with its meaning."""
    chance = random.Random(3)
    found = []
    for place, (rule, meaning) in enumerate(rules):
        if meaning.size >= 3:
            for depth in range(place % 4 + 1):
                word = ("less", "drawn", "cut")[(place + depth) % 3]
                rule, meaning = shaped(rule, meaning, word, some_given(chance, meaning.size, word))
            found.append((rule, meaning))
    return found


def wide_rules():
    """Return rules of each kind but the shapes with 11 to 16 things."""
    chance = random.Random(4)
    lines = tuple((chance.randrange(12), chance.randrange(12)) for _ in range(16))
    wheel = tuple((x, (x + 1) % 6) for x in range(6)) + tuple((x, 6) for x in range(6))
    columns = tuple(tuple(chance.randrange(5) for _ in range(8)) for _ in range(16))
    flat = tuple(tuple(chance.randrange(2) for _ in range(4)) for _ in range(16))
    return [
        Rule(16), Firsts(16, 8), Firsts(16, 20), Teams((0, 1, 2, 3) * 4, (1, 2, 0, 4)),
        Works(tuple(chance.randrange(9) for _ in range(16))), Net(12, lines), Net(7, wheel), Columns(5, columns),
        Columns(2, flat), ToldLots(16, many_lots()),
    ]


def many_lots():
    """Return 300 lots of 5 things: 2 of 5 things, 2 of 5 others, 1 of 3 others, and 3 things are dead."""
    twos = [things for things in all_sets(5) if len(things) == 2]
    return [
        (*one, *[x + 5 for x in other], third) for one, other, third in product(twos, twos, (10, 11, 12))
    ]


def deep_rules(rules):
    """Return shapes four deep over the rules."""
    return [
        Cut(Drawn(Less(Drawn(rule, (0, 5)), (5, 7)), (2,)), rule.size // 2) for rule in rules
    ] + [
        Less(Less(Cut(Drawn(rule, (4,)), 3), (1,)), (0, 1)) for rule in rules
    ]


PLAIN_RULES = plain_rules()
SHAPE_RULES = shape_rules(PLAIN_RULES)
SMALL_RULES = PLAIN_RULES + SHAPE_RULES
WIDE_RULES = wide_rules()
DEEP_RULES = deep_rules(WIDE_RULES)
