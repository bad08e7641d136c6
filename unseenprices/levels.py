"""The rule whose lots are the cheapest lots of a world."""

from unseenprices.rules import Rule
from unseenprices.sets import both, world_of


class Level(Rule):
    """Free are the sets that have, of the things of each price, a set that is free if all cheaper ones are drawn in."""

    def __init__(self, rule, world):
        super().__init__(rule.size)
        self.rule = rule
        self.world = world_of(rule.size, world)
        self._full = self.rank_of(self._all)

    def rank_found(self, things):
        return sum([self.rank_at(things, price) for price in sorted(set([self.world[thing] for thing in things]))])

    def rank_at(self, things, price):
        """Return the rank of what the set has of this price, with all cheaper things drawn in."""
        cheaper = tuple([thing for thing in self._all if self.world[thing] < price])
        of_price = [thing for thing in things if self.world[thing] == price]
        return self.rule.rank_of(both(cheaper, of_price)) - self.rule.rank_of(cheaper)
