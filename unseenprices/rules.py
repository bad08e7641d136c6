"""Rules of independence: what every class of rules answers, and the rule under which every set is free."""

from unseenprices.errors import BadNumber, BadThing, NotALot, TooMany
from unseenprices.pairing import most_pairs
from unseenprices.sets import both, is_count, minus, set_of, subsets, thing_of

MOST_FOR_LOTS = 10


class Rule:
    """The rule under which every set is free, and the base class of all classes of rules.

    A class below defines rank_found; all other answers come from it. Its __init__ ends by setting _full.
    """

    def __init__(self, size):
        if not is_count(size):
            raise BadNumber("size")
        self.size = size
        self._all = tuple(range(size))
        self._ranks = {}
        # Set ahead of all questions, because a property must not change the kept ranks.
        self._full = size

    def rank_found(self, things):
        """Work out the rank of an ascending tuple of things, which is not checked."""
        return len(things)

    def rank_of(self, things):
        """Return the rank of an ascending tuple of things, which is not checked."""
        # Shapes over one another ask for the same few sets again and again.
        if things not in self._ranks:
            self._ranks[things] = self.rank_found(things)
        return self._ranks[things]

    def __len__(self):
        return len(self._all)

    @property
    def full(self):
        """The rank of all things."""
        return self._full

    def is_free(self, things):
        """Return whether the set is free."""
        held = set_of(self.size, things)
        return self.rank_of(held) == len(held)

    def is_lot(self, things):
        """Return whether the set is a lot."""
        held = set_of(self.size, things)
        return self.rank_of(held) == len(held) == self.full

    def rank(self, things):
        """Return the rank of the set."""
        return self.rank_of(set_of(self.size, things))

    def span(self, things):
        """Return the span of the set."""
        held = set_of(self.size, things)
        rank = self.rank_of(held)
        return tuple([thing for thing in self._all if self.rank_of(both(held, (thing,))) == rank])

    def dead(self):
        """Return the set of all things that are in no lot."""
        return tuple([thing for thing in self._all if self.rank_of((thing,)) == 0])

    def firm(self):
        """Return the set of all things that are in every lot."""
        return tuple([thing for thing in self._all if self.rank_of(minus(self._all, (thing,))) < self._full])

    def lots(self):
        """Return the list of all lots, ascending."""
        if self.size > MOST_FOR_LOTS:
            raise TooMany(self.size)
        full = self._full
        return [held for held in subsets(self._all) if len(held) == full and self.rank_of(held) == full]

    def circuit(self, lot, thing):
        """Return the circuit C(lot, thing)."""
        held = check_lot(self, lot)
        if check_thing(self, thing) in held:
            raise BadThing(thing)
        return closed_by(self, held, thing)

    def blow_of(self, lot, thing):
        """Return D(lot, thing): the thing and all things that may come for it."""
        held = check_lot(self, lot)
        if check_thing(self, thing) not in held:
            raise BadThing(thing)
        return both((thing,), [f for _, f in exchanges_with(self, held, (thing,), minus(self._all, held))])

    def exchanges(self, lot):
        """Return the list of all exchanges of the lot."""
        held = check_lot(self, lot)
        return exchanges_with(self, held, held, minus(self._all, held))


def all_things(rule):
    """Return the set of all things of the rule."""
    return tuple(range(rule.size))


def check_lot(rule, lot):
    """Return the lot as a tuple; raises BadSet(place) or NotALot(things)."""
    held = set_of(rule.size, lot)
    if not rule.is_lot(held):
        raise NotALot(held)
    return held


def check_thing(rule, thing):
    """Return the thing; raises BadThing(thing)."""
    return thing_of(rule.size, thing)


def stays_free(rule, free, leaving, coming):
    """Return whether a free set stays free if one of its things is exchanged for a thing outside it."""
    return rule.rank_of(both(minus(free, (leaving,)), (coming,))) == len(free)


def closed_by(rule, free, thing):
    """Return the circuit that a thing in the span of a free set, but outside the set, makes with it."""
    return both((thing,), [e for e in free if stays_free(rule, free, e, thing)])


def exchanges_with(rule, lot, leaving, coming):
    """Return the exchanges of the lot that take a thing of `leaving` out and one of `coming` in."""
    return [(e, f) for e in leaving for f in coming if stays_free(rule, lot, e, f)]


def basis(rule, row):
    """Return the set of the things that are taken from the row, each if it leaves the taken set free."""
    taken = ()
    for thing in row:
        grown = both(taken, (thing,))
        if rule.rank_of(grown) == len(grown):
            taken = grown
    return taken


def swaps(rule, lot, other):
    """Return exchanges of the lot that pair its things outside the other lot with those of the other one."""
    held = check_lot(rule, lot)
    goal = check_lot(rule, other)
    return most_pairs(exchanges_with(rule, held, minus(held, goal), minus(goal, held)))
