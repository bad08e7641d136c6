"""Small rules of every kind with small notes, all agreeing worlds and the lots of these: what is held against them."""

import random

from tests.kinds import SMALL_RULES
from tests.knowing import Known, Lots, some_told

MOST_WORLDS = 150


class Case:
    """A rule and notes of as many things; `found` has the lot of each agreeing world, in their order."""

    def __init__(self, rule, meaning, finder, known):
        self.rule = rule
        self.meaning = meaning
        self.finder = finder
        self.known = known
        self.notes = known.notes
        self.worlds = known.worlds
        self.found = [finder.lot(world) for world in known.worlds]
        self.cheapest = [finder.cheapest(world) for world in known.worlds]
        self.prices = [sum(world[x] for x in lot) for world, lot in zip(self.worlds, self.found)]

    def possible(self):
        return sorted(set(self.found))

    def judged(self, thing):
        """Return the verdict of the thing."""
        having = [thing in lot for lot in self.found]
        return "in" if all(having) else "unsettled" if any(having) else "out"


    def is_safe(self, lot):
        """Return whether the lot is cheapest in every agreeing world."""
        return all(lot in row for row in self.cheapest)


def few_worlds(chance, size, many):
    """Return stretches and comparisons of so many things for which some worlds agree, and not too many."""
    while True:
        known = Known(*some_told(chance, size, many, 4 if size < 5 else 2))
        if 1 <= len(known.worlds) <= MOST_WORLDS:
            return known


def small_cases():
    """Return each of the small rules with notes: rules with several lots with more of them."""
    chance = random.Random(51)
    found = []
    for place, (rule, meaning) in enumerate(SMALL_RULES):
        finder = Lots(meaning)
        several = len(meaning.lots) > 1
        for many in (0, 0, chance.randrange(1, 4), chance.randrange(2, 7)) if several else ((0, 3)[place % 2],):
            # Of a few the one with the most worlds, because there more is open.
            drawn = [few_worlds(chance, meaning.size, many) for _ in range(3 if several else 1)]
            known = max(drawn, key=lambda one: len(one.worlds))
            found.append(Case(rule, meaning, finder, known))
    return found


def price_in(world, lot):
    return sum(world[x] for x in lot)


def every_integer(case, values, reach):
    """Check that the values are every integer between the two ends and no other one."""
    case.assertIsInstance(reach, tuple)
    least, most = reach
    case.assertEqual(sorted(set(values)), list(range(least, most + 1)))


CASES = small_cases()
PLAIN_CASES = [case for case in CASES if not case.known.pairs]
OTHER_CASES = [case for case in CASES if case.known.pairs]
