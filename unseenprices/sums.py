"""Sums: rules side by side."""

from unseenprices.rules import Rule, check_thing
from unseenprices.sets import set_of


class Sum(Rule):
    """Free are the sets of which each rule has a free share."""

    def __init__(self, rule, other, *rest):
        rules = (rule, other, *rest)
        homes = [(place, number) for place, one in enumerate(rules) for number in range(one.size)]
        super().__init__(len(homes))
        self.rules = rules
        self._homes = tuple(homes)
        self._full = self.rank_of(self._all)

    def rank_found(self, things):
        return sum([rule.rank_of(share) for rule, share in zip(self.rules, self.shares_of(things))])

    def shares_of(self, things):
        """Return what shares returns; the set is not checked."""
        homes = [self._homes[thing] for thing in things]
        return [
            tuple([number for at, number in homes if at == place])
            for place in range(len(self.rules))
        ]

    def shares(self, things):
        """Return the list of the sets that the set has in each of the rules, with their own numbers."""
        return self.shares_of(set_of(self.size, things))

    def home(self, thing):
        """Return the pair of the place of the rule that has the thing and of the thing's number in it."""
        return self._homes[check_thing(self, thing)]
