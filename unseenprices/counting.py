"""Rules that count: the first k things, teams with places, works with days."""

from unseenprices.errors import BadEntry, BadNumber, NotFree
from unseenprices.rules import Rule
from unseenprices.sets import is_below, is_count, set_of


class Firsts(Rule):
    """Free are the sets with at most k things."""

    def __init__(self, size, k):
        super().__init__(size)
        if not is_count(k):
            raise BadNumber("k")
        self.number = k
        self._full = self.rank_of(self._all)

    def rank_found(self, things):
        return min(self.number, len(things))


class Teams(Rule):
    """Free are the sets that have of each class at most as many things as the class has places."""

    def __init__(self, classes, places):
        check_entries([is_below(entry, len(places)) for entry in classes])
        check_entries([is_count(entry) for entry in places])
        super().__init__(len(classes))
        self.classes = tuple(classes)
        self.places = tuple(places)
        self._full = self.rank_of(self._all)

    def rank_found(self, things):
        held = [self.classes[thing] for thing in things]
        return sum([min(most, held.count(at)) for at, most in enumerate(self.places)])


class Works(Rule):
    """Free are the sets of works that can be done on different days, each not later than on its own day."""

    def __init__(self, days):
        check_entries([is_count(entry) for entry in days])
        super().__init__(len(days))
        self.days = tuple(days)
        self._full = self.rank_of(self._all)

    def rank_found(self, things):
        # A work that is due no earlier than those done so far can be done behind them, or no longer at all.
        done = 0
        for day in sorted([self.days[thing] for thing in things]):
            if day > done:
                done += 1
        return done


def check_entries(fits):
    """Raise BadEntry with the least place at which the list says False."""
    if False in fits:
        raise BadEntry(fits.index(False))


def timetable(works, things):
    """Return the works of a free set in ascending order of their days, then of their numbers."""
    held = set_of(works.size, things)
    if not works.is_free(held):
        raise NotFree(held)
    return [thing for _, thing in sorted([(works.days[thing], thing) for thing in held])]
