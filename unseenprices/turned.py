"""The turned rule: its lots are the turned rests of the lots of another rule."""

from unseenprices.rules import Rule
from unseenprices.sets import turned_rest


class Turned(Rule):
    """Free are the sets whose turned sets leave some lot of the rule untouched."""

    def __init__(self, rule):
        super().__init__(rule.size)
        self.rule = rule
        self._full = self.rank_of(self._all)

    def rank_found(self, things):
        left = turned_rest(self.size, things)
        return len(things) - self.rule.full + self.rule.rank_of(left)
