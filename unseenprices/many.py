"""The rule whose free sets can be divided into k free sets of another rule."""

from unseenprices.parting import check_many, crowd, divided, taken_by
from unseenprices.rules import Rule
from unseenprices.sets import set_of


class Many(Rule):
    """Free are the k-free sets of the rule."""

    def __init__(self, rule, k):
        super().__init__(rule.size)
        self.rule = rule
        self.number = check_many(k)
        self._full = self.rank_of(self._all)

    def rank_found(self, things):
        return len(taken_by(divided(self.rule, things, self.number)))


def greatest(many, things):
    """Return a subset of the set that is free in the rule `many` and has as many things as the set's rank in it."""
    return taken_by(divided(many.rule, set_of(many.size, things), many.number))


def loosest(many, things):
    """Return a subset Z of the set A for which |A - Z| + k * rank(Z) is the rank of A in the rule `many`."""
    held = set_of(many.size, things)
    return crowd(many.rule, held, divided(many.rule, held, many.number))
