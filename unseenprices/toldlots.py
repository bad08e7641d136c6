"""Rules that are given by the list of their lots."""

from unseenprices.errors import BadEntry, BadLots, BadNumber, NoLots, Twice
from unseenprices.rules import Rule
from unseenprices.sets import is_count, is_set


class ToldLots(Rule):
    """Free are the subsets of the told lots."""

    def __init__(self, size, lots):
        told = checked_sets(size, lots)
        found = first_fault(size, told)
        if found is not None:
            one, other, thing = found
            raise BadLots(one, other, thing)
        super().__init__(size)
        self._told = tuple(told)
        self._full = self.rank_of(self._all)

    def rank_found(self, things):
        # A thing can be taken if some lot has it and all that is taken already; other lots no longer matter.
        left = self._told
        taken = 0
        for thing in things:
            having = [lot for lot in left if thing in lot]
            if having:
                left = having
                taken += 1
        return taken


def checked_sets(size, lots):
    """Return the list of the sets as tuples; raises all errors of ToldLots but BadLots."""
    if not is_count(size):
        raise BadNumber("size")
    if len(lots) == 0:
        raise NoLots()
    for place, lot in enumerate(lots):
        if not is_set(size, lot):
            raise BadEntry(place)
    told = [tuple(lot) for lot in lots]
    for place, lot in enumerate(told):
        if lot in told[:place]:
            raise Twice(place)
    return told


def mask_of(things):
    """Return the integer whose bits tell which things are in the set."""
    return sum([1 << thing for thing in things])


def first_fault(size, told):
    """Return the least fault of a list of different sets, or None if it has none."""
    masks = [mask_of(lot) for lot in told]
    known = {mask: True for mask in masks}
    for i, lot in enumerate(told):
        coming = {e: mask_of(comers(size, lot, masks[i] - (1 << e), known)) for e in lot}
        for j, mask in enumerate(masks):
            for e in lot:
                if (mask >> e) & 1 == 0 and mask & coming[e] == 0:
                    return (i, j, e)
    return None


def comers(size, lot, rest, known):
    """Return the things outside the lot with which `rest`, the mask of the lot without a thing, is known."""
    return [f for f in range(size) if f not in lot and rest + (1 << f) in known]


def fault(size, lots):
    """Return the least fault of a list of sets, a tuple (i, j, e), or None if it has none."""
    return first_fault(size, checked_sets(size, lots))
