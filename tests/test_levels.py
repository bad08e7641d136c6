"""Point 48: the rule of the cheapest lots of a world."""

import random
import unittest

from tests.cases import CASES
from tests.kinds import DEEP_RULES, LEVEL_RULES, SMALL_RULES, WIDE_RULES, flat_world
from tests.meaning import check_rule, level_meaning, raised, with_things
from tests.refusals import refuses_worlds
from unseenprices.counting import Firsts
from unseenprices.levels import Level
from unseenprices.nets import Net
from unseenprices.rules import Rule
from unseenprices.sets import TOP
from unseenprices.shapes import Drawn


class LevelTest(unittest.TestCase):
    def test_every_small_rule(self):
        for rule, meaning in LEVEL_RULES:
            check_rule(self, rule, meaning)

    def test_the_cheapest_lots(self):
        for case in CASES:
            for world in case.worlds[::30]:
                self.assertEqual(Level(case.rule, list(world)).lots(), case.finder.cheapest(world))

    def test_free_as_point_48_words_it(self):
        chance = random.Random(71)
        for rule, meaning in SMALL_RULES[::4]:
            world = tuple(chance.randrange(3) for _ in range(meaning.size))
            level = Level(rule, world)
            for things in meaning.sets:
                free = True
                for price in set(world):
                    cheaper = tuple(x for x in meaning.all if world[x] < price)
                    share = tuple(x for x in things if world[x] == price)
                    rank = meaning.ranks[with_things(cheaper, share)]
                    free = free and rank == meaning.ranks[cheaper] + len(share)
                self.assertIs(level.is_free(things), free)

    def test_exchanges_at_equal_prices(self):
        for case in CASES:
            for world in case.worlds[::50]:
                level = Level(case.rule, world)
                for lot in case.finder.cheapest(world):
                    told = [(e, f) for e, f in case.finder.exchanges[lot] if world[e] == world[f]]
                    self.assertEqual(level.exchanges(lot), told)

    def test_a_rule_like_others(self):
        level = Level(Firsts(3, 1), [2, 0, 0])
        self.assertIsInstance(level, Rule)
        self.assertEqual([len(level), level.size, level.full, level.lots()], [3, 3, 1, [(1,), (2,)]])
        self.assertEqual([level.dead(), level.firm(), level.span((1,))], [(0,), (), (0, 1, 2)])
        self.assertEqual(Level(Rule(0), ()).lots(), [()])
        self.assertEqual(Level(Firsts(2, 1), (TOP, TOP)).lots(), [(0,), (1,)])
        self.assertEqual(Level(Firsts(2, 1), (TOP, TOP - 1)).lots(), [(1,)])

    def test_wide(self):
        for rule in WIDE_RULES + DEEP_RULES[::6]:
            world = flat_world(rule.size)
            level = Level(rule, world)
            for price in (0, 1):
                cheaper = tuple(x for x in range(rule.size) if world[x] < price)
                share = tuple(x for x in range(rule.size) if world[x] == price)
                self.assertEqual(level.rank(share), Drawn(rule, cheaper).rank(share))
            self.assertEqual(level.full, rule.full)

    def test_the_meaning_is_a_rule(self):
        for rule, meaning in SMALL_RULES[::7]:
            self.assertTrue(level_meaning(meaning, (1,) * meaning.size).lots == meaning.lots)

    def test_errors(self):
        for rule in (Firsts(3, 1), Rule(0), Net(2, ((0, 1),))):
            refuses_worlds(self, rule.size, lambda world: Level(rule, world))

    def test_the_world_is_not_kept(self):
        world = [0, 1]
        level = Level(Firsts(2, 1), world)
        world[0] = 5
        self.assertEqual([level.lots(), raised(level.rank, (2,))], [[(0,)], ("BadSet", {"place": 0})])
