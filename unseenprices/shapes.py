"""Shapes of rules: a set of things left out or drawn in, and a rule cut to small sets."""

from unseenprices.errors import BadNumber
from unseenprices.rules import Rule
from unseenprices.sets import both, is_count, minus, set_of


class Less(Rule):
    """The rule with a set of things left out."""

    def __init__(self, rule, things):
        super().__init__(rule.size)
        self.rule = rule
        self.gone = set_of(rule.size, things)
        self._full = self.rank_of(self._all)

    def rank_found(self, things):
        return self.rule.rank_of(minus(things, self.gone))


class Drawn(Rule):
    """The rule with a set of things drawn in."""

    def __init__(self, rule, things):
        super().__init__(rule.size)
        self.rule = rule
        self.gone = set_of(rule.size, things)
        self._base = rule.rank_of(self.gone)
        self._full = self.rank_of(self._all)

    def rank_found(self, things):
        return self.rule.rank_of(both(things, self.gone)) - self._base


class Cut(Rule):
    """The rule cut to its free sets of at most k things."""

    def __init__(self, rule, k):
        super().__init__(rule.size)
        if not is_count(k):
            raise BadNumber("k")
        self.rule = rule
        self.most = k
        self._full = self.rank_of(self._all)

    def rank_found(self, things):
        return min(self.most, self.rule.rank_of(things))
