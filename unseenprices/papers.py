"""Papers: sets of things behind whose asking a lot is sure in a told world; the notes are plain."""

from unseenprices.choosing import chosen, first_or_none
from unseenprices.dues import forced_by, forced_in
from unseenprices.errors import BadNumber, TooMany
from unseenprices.matching import greatest_row, lean_covers, least_cover
from unseenprices.notes import agreeing_world, check_plain_for
from unseenprices.sets import both, is_count, set_of
from unseenprices.surelots import doubtful

MOST_FOR_PAPERS = 10


class Told:
    """A told world: its prices are known here, while a reader of the notes has to ask."""

    def __init__(self, rule, notes, world):
        check_plain_for(rule, notes)
        self.rule = rule
        self.notes = notes
        self.world = agreeing_world(notes, world)
        self.lot = chosen(rule, self.world)
        self._loose = tuple(doubtful(rule, notes, self.lot))
        self.settle(forced_in(rule, notes, self.world), self._loose)

    def settle(self, forced, loose):
        """Set all that comes from the forced things and the loose exchanges."""
        self.forced = forced
        self.pairs = without_forced(forced, loose)
        self.row = tuple(sorted(greatest_row(self.pairs)))
        self.paper = both(forced, least_cover(self.pairs))
        self.fewest = len(self.paper)

    def __iter__(self):
        return iter(self.paper)

    def __contains__(self, thing):
        return isinstance(thing, int) and thing in self.paper

    def first_unmet(self, things):
        """Return the least loose exchange that the set, which is not checked, does not meet, or None."""
        return first_or_none([pair for pair in self._loose if not meets(self.notes, self.world, things, pair)])

    def shows(self, things):
        """Return whether a lot is sure behind asking the set."""
        return self.first_unmet(set_of(self.rule.size, things)) is None

    def two_worlds(self, things):
        """Return None if a lot is sure behind asking the set, otherwise two worlds that it leaves, with other lots."""
        held = set_of(self.rule.size, things)
        pair = self.first_unmet(held)
        return None if pair is None else (self.world, changed(self.notes, self.world, held, pair))

    def lean_papers(self):
        """Return the list of all lean papers; raises TooMany(number) for more than 10 unseen things."""
        many = len(self.notes.unseen())
        if many > MOST_FOR_PAPERS:
            raise TooMany(many)
        return sorted([both(self.forced, cover) for cover in lean_covers(self.pairs)])

    def doubled(self, number):
        """Return a shortest list of asks that remains a paper if any `number` answers are lost."""
        if not is_count(number):
            raise BadNumber("number")
        return [thing for thing in self.paper for _ in range(number + 1)]


def without_forced(forced, loose):
    """Return the tuple of the loose exchanges that have no forced thing."""
    return tuple([(e, f) for e, f in loose if e not in forced and f not in forced])


def meets(notes, world, things, pair):
    """Return whether the set meets a loose exchange; nothing is checked."""
    forced = forced_by(notes, world, pair)
    left = [thing for thing in pair if thing not in things]
    return len(left) < 2 and not any([thing in forced for thing in left])


def changed(notes, world, things, pair):
    """Return the world with the exchange turned round by those of its things that are not asked."""
    e, f = pair
    prices = list(world)
    if e not in things:
        prices[e] = notes.highs[e]
    if f not in things:
        prices[f] = notes.lows[f]
    return tuple(prices)
