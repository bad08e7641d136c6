"""Examples of every kind of rule: small ones with their meanings, and big ones up to the sizes of point 0.6."""

import random
from itertools import product

from tests.meaning import (
    Meaning, all_sets, columns_test, cut_meaning, drawn_meaning, firsts_test, less_meaning, level_meaning,
    many_meaning, net_test, sum_meaning, teams_test, told_test, turned_meaning, works_test,
)
from unseenprices.columns import Columns
from unseenprices.counting import Firsts, Teams, Works
from unseenprices.levels import Level
from unseenprices.many import Many
from unseenprices.nets import Net
from unseenprices.rules import Rule
from unseenprices.sets import TOP
from unseenprices.shapes import Cut, Drawn, Less
from unseenprices.sums import Sum
from unseenprices.toldlots import ToldLots
from unseenprices.turned import Turned

FIRSTS = tuple((size, k) for size in range(6) for k in range(size + 2)) + ((3, 100),)

TEAMS = (
    ((), ()), ((), (3, 0)), ((0,), (0,)), ((0, 0, 0), (2,)), ((0, 1, 0, 1), (1, 1)), ((2, 0, 2, 0, 2), (1, 0, 2)),
    ((1, 1, 3), (5, 2, 9, 1)), ((0, 1, 2, 0, 1, 2), (1, 1, 2)), ((0, 0, 1, 1, 1), (7, 1)),
)

WORKS = (
    (), (0,), (1,), (5,), (0, 0, 0), (1, 1, 2), (3, 1, 3, 1), (2, 2, 2, 2), (4, 3, 2, 1), (1, 0, 3, 3, 3),
    (2, 9, 1, 2, 0), (1, 2, 2, 4, 4),
)

NETS = (
    (0, ()), (1, ()), (5, ()), (1, ((0, 0),)), (1, ((0, 0), (0, 0))), (2, ((0, 1), (1, 0))), (3, ((0, 1), (1, 2))),
    (3, ((0, 1), (1, 2), (2, 0))), (4, ((0, 1), (1, 2), (0, 2), (2, 3), (2, 3))),
    (4, ((3, 0), (0, 0), (0, 1), (1, 2), (2, 3), (3, 1))), (4, ((0, 1), (0, 2), (0, 3), (1, 2), (1, 3), (2, 3))),
    (6, ((0, 1), (1, 0), (2, 3), (3, 4), (4, 2))), (3, ((0, 1), (0, 2), (1, 2), (0, 1), (0, 2), (1, 2))),
)

COLUMNS = (
    (2, ()), (5, ((),)), (3, ((), (), ())), (2, ((0, 0), (0, 0))), (2, ((1,), (1,), (0,))),
    (2, ((1, 0, 0), (0, 1, 0), (1, 1, 0), (0, 0, 1), (1, 1, 1))), (3, ((1, 2), (2, 1), (1, 1), (0, 0), (0, 2))),
    (5, ((1, 2), (2, 4), (3, 3), (4, 0), (0, 1))), (5, ((2, 0, 4), (3, 0, 1), (1, 1, 1), (4, 1, 3))),
    (3, ((1, 1, 1), (1, 2, 0), (0, 2, 2), (2, 0, 1))), (2, ((1, 1, 0), (0, 1, 1), (1, 0, 1))),
    (3, ((1, 1, 0), (0, 1, 1), (1, 0, 1))),
)

TOLD = (
    (0, ((),)), (3, ((),)), (1, ((0,),)), (2, ((1,), (0,))), (3, ((0, 2), (0, 1))), (4, ((1, 2, 3),)),
    (4, ((0, 1), (0, 2), (0, 3), (1, 2), (1, 3))), (4, tuple(product((0, 1), (2, 3)))),
    (4, ((2, 3), (0, 1), (1, 3), (0, 2), (0, 3), (1, 2))), (5, ((0, 3, 4), (0, 1, 4), (0, 1, 3))),
)


def counting_rules():
    found = [(Rule(size), Meaning(size, lambda things: True)) for size in (0, 1, 4)]
    found += [(Firsts(size, k), Meaning(size, firsts_test(k))) for size, k in FIRSTS]
    found += [(Teams(*row), Meaning(len(row[0]), teams_test(*row))) for row in TEAMS]
    found += [(Works(days), Meaning(len(days), works_test(days))) for days in WORKS]
    return found


def told_rules():
    found = [(ToldLots(size, lots), Meaning(size, told_test(lots))) for size, lots in TOLD]
    for row in NETS[8:10]:
        lots = Net(*row).lots()[::-1]
        found.append((ToldLots(len(row[1]), lots), Meaning(len(row[1]), told_test(lots))))
    return found


def plain_rules():
    """Return examples of all kinds but the shapes, each with its meaning."""
    found = counting_rules()
    found += [(Net(*row), Meaning(len(row[1]), net_test(row[1]))) for row in NETS]
    found += [(Columns(*row), Meaning(len(row[1]), columns_test(*row))) for row in COLUMNS]
    return found + told_rules()


def shaped(rule, meaning, word, given):
    """Return the shape that the word names over a rule, with its meaning."""
    if word == "less":
        return Less(rule, given), less_meaning(meaning, given)
    if word == "drawn":
        return Drawn(rule, given), drawn_meaning(meaning, given)
    if word == "cut":
        return Cut(rule, given), cut_meaning(meaning, given)
    if word == "many":
        return Many(rule, given), many_meaning(meaning, given)
    if word == "level":
        return Level(rule, given), level_meaning(meaning, given)
    if word == "turned":
        return Turned(rule), turned_meaning(meaning)
    other, meant = given
    return Sum(other, rule), sum_meaning(meant, meaning)


def some_given(chance, size, word):
    if word == "cut":
        return chance.randrange(size + 2)
    if word == "many":
        return chance.randrange(1, 4)
    if word == "sum":
        return Firsts(1, 1), Meaning(1, firsts_test(1))
    if word == "level":
        return tuple(chance.choice((0, 4, 4, TOP)) for _ in range(size))
    return tuple(x for x in range(size) if chance.random() < 0.3)


def shape_rules(rules):
    """Return shapes over the rules, up to four deep, each with its meaning."""
    chance = random.Random(3)
    found = []
    for place, (rule, meaning) in enumerate(rules):
        if meaning.size >= 3:
            for depth in range(place % 4 + 1):
                word = ("less", "drawn", "cut")[(place + depth) % 3]
                rule, meaning = shaped(rule, meaning, word, some_given(chance, meaning.size, word))
            found.append((rule, meaning))
    return found


def turned_rules(rules):
    """Return each of the rules turned, with its meaning."""
    return [(Turned(rule), turned_meaning(meaning)) for rule, meaning in rules]


def many_rules(rules):
    """Return Many over each of the rules, with its meaning."""
    found = []
    for place, (rule, meaning) in enumerate(rules):
        for k in (1, 2, 3, 50)[place % 2::2]:
            found.append((Many(rule, k), many_meaning(meaning, k)))
    return found


def sum_rules(rules):
    """Return sums of neighbours among the rules, of a rule with itself, of three rules and of a sum."""
    small = [(rule, meaning) for rule, meaning in rules if meaning.size <= 3]
    found = []
    for (rule, meaning), (other, meant) in zip(small, small[1:] + small[:1]):
        found.append((Sum(rule, other), sum_meaning(meaning, meant)))
    for rule, meaning in small[::3]:
        found.append((Sum(rule, rule), sum_meaning(meaning, meaning)))
    for rule, meaning in [row for row in small if row[1].size == 2]:
        one, meant = Firsts(1, 1), Meaning(1, firsts_test(1))
        none, nothing = Rule(0), Meaning(0, firsts_test(1))
        found.append((Sum(one, rule, none, one), sum_meaning(meant, meaning, nothing, meant)))
        found.append((Sum(Sum(rule, none), one), sum_meaning(meaning, nothing, meant)))
        found.append((Sum(none, Sum(rule, rule), none), sum_meaning(meaning, meaning)))
    return found


def mixed_rules(rules):
    """Return all shapes over one another, two to four deep, each with its meaning."""
    chance = random.Random(8)
    words = ("turned", "many", "less", "sum", "drawn", "cut")
    found = []
    for place, (rule, meaning) in enumerate(rules):
        if 2 <= meaning.size <= 5:
            for depth in range(place % 3 + 2):
                # Few things remain few: a sum adds one.
                fitting = words if meaning.size <= 5 else [word for word in words if word != "sum"]
                word = chance.choice(fitting)
                rule, meaning = shaped(rule, meaning, word, some_given(chance, meaning.size, word))
            found.append((rule, meaning))
    return found


def level_rules(rules):
    """Return the rules of the cheapest lots of some worlds, and shapes over them, each with its meaning."""
    chance = random.Random(9)
    found = []
    for rule, meaning in [row for row in rules if len(row[1].lots) > 1 and row[1].size <= 5]:
        for words in (("level",), ("level", chance.choice(("turned", "many", "less", "drawn", "level")))):
            shape = (rule, meaning)
            for word in words:
                shape = shaped(*shape, word, some_given(chance, meaning.size, word))
            found.append(shape)
    return found


def wide_rules():
    """Return rules of each kind but the shapes with 11 to 16 things."""
    chance = random.Random(4)
    lines = tuple((chance.randrange(12), chance.randrange(12)) for _ in range(16))
    wheel = tuple((x, (x + 1) % 6) for x in range(6)) + tuple((x, 6) for x in range(6))
    columns = tuple(tuple(chance.randrange(5) for _ in range(8)) for _ in range(16))
    flat = tuple(tuple(chance.randrange(2) for _ in range(4)) for _ in range(16))
    return [
        Rule(16), Firsts(16, 8), Firsts(16, 20), Teams((0, 1, 2, 3) * 4, (1, 2, 0, 4)),
        Works(tuple(chance.randrange(9) for _ in range(16))), Net(12, lines), Net(7, wheel), Columns(5, columns),
        Columns(2, flat), ToldLots(16, many_lots()),
    ]


def many_lots():
    """Return 300 lots of 5 things: 2 of 5 things, 2 of 5 others, 1 of 3 others, and 3 things are dead."""
    twos = [things for things in all_sets(5) if len(things) == 2]
    return [
        (*one, *[x + 5 for x in other], third) for one, other, third in product(twos, twos, (10, 11, 12))
    ]


def deep_rules(rules):
    """Return shapes four deep over the rules."""
    return [
        Cut(Drawn(Less(Drawn(rule, (0, 5)), (5, 7)), (2,)), rule.size // 2) for rule in rules
    ] + [
        Less(Less(Cut(Drawn(rule, (4,)), 3), (1,)), (0, 1)) for rule in rules
    ]


def deep_shapes(rules):
    """Return shapes four deep over the rules, with Turned, Many and Sum among them."""
    found = []
    for rule in rules:
        third = rule.full // 3 + 1
        found += [
            Many(Turned(Many(Turned(rule), 2)), 2),
            Many(Cut(Many(Cut(rule, third), 2), third + 1), 2),
            Turned(Less(Many(Drawn(rule, (2,)), 2), (1, 7))),
            Turned(Many(Less(Turned(rule), (0, 3)), 2)),
            Many(Many(Many(Cut(rule, 1), 2), 3), 1),
            Level(Many(Level(Drawn(rule, (1,)), flat_world(rule.size)), 2), flat_world(rule.size)[::-1]),
        ]
    return found


def flat_world(size):
    """Return a world in which many things cost the same."""
    return tuple((x * x) % 3 for x in range(size))


def wide_sums():
    """Return sums with 16 things, alone and among other shapes."""
    wheel = Net(5, tuple((x, (x + 1) % 4) for x in range(4)) + tuple((x, 4) for x in range(4)))
    flat = Columns(3, tuple((x % 3, x // 3, (x * x) % 3) for x in range(8)))
    works = Works((1, 2, 2, 3))
    return [
        Sum(wheel, flat), Sum(wheel, wheel), Sum(works, Firsts(4, 2), Rule(0), flat), Many(Sum(wheel, flat), 2),
        Turned(Sum(Many(flat, 2), Turned(wheel))), Cut(Many(Sum(flat, Drawn(wheel, (1,))), 2), 9),
        Sum(Sum(works, works), Sum(works, works)),
    ]


PLAIN_RULES = plain_rules()
SHAPE_RULES = shape_rules(PLAIN_RULES)
TURNED_RULES = turned_rules(PLAIN_RULES + SHAPE_RULES)
SUM_RULES = sum_rules(PLAIN_RULES)
MANY_RULES = many_rules(PLAIN_RULES + SHAPE_RULES)
MIXED_RULES = mixed_rules(PLAIN_RULES + SUM_RULES)
LEVEL_RULES = level_rules(PLAIN_RULES + SUM_RULES + MIXED_RULES)
SMALL_RULES = PLAIN_RULES + SHAPE_RULES + TURNED_RULES + SUM_RULES + MANY_RULES + MIXED_RULES + LEVEL_RULES
WIDE_RULES = wide_rules()
DEEP_RULES = deep_rules(WIDE_RULES) + deep_shapes(WIDE_RULES) + wide_sums()
