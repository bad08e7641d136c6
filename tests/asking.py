"""What asking leaves open in the agreeing worlds of small cases with plain notes, found by trying every set of asks."""

from tests.cases import PLAIN_CASES
from tests.knowing import key
from tests.meaning import Meaning
from unseenprices.counting import Firsts
from unseenprices.nets import Net
from unseenprices.notes import Notes

NET = Net(4, [(0, 1), (1, 2), (0, 2), (2, 3), (2, 3)])
NOTES = Notes([(1, 4), (2, 2), (3, 6), (0, 5), (4, 4)])
WORLD = (2, 2, 5, 1, 4)
COMPARED = Notes.unknown(5, pairs=((0, 1),))
SMALL = Firsts(3, 1)


class Asking:
    """A case with plain notes: for each set of unseen things what is sure and what is safe behind asking it."""

    def __init__(self, case):
        self.case = case
        self.unseen = tuple(x for x, (low, high) in enumerate(case.known.stretches) if low < high)
        self.sets = Meaning.parts(self.unseen)
        self.lots, self.safe = {}, {}
        for world, lot, cheapest in zip(case.worlds, case.found, case.cheapest):
            for things in self.sets:
                left = self.left(world, things)
                self.lots.setdefault(left, set()).add(lot)
                self.safe[left] = self.safe.get(left, {*cheapest}) & {*cheapest}

    @staticmethod
    def left(world, things):
        return things, tuple(world[x] for x in things)

    def is_paper(self, world, things):
        return len(self.lots[self.left(world, things)]) == 1

    def papers(self, world):
        return [things for things in self.sets if self.is_paper(world, things)]

    def is_safe(self, world, things):
        return bool(self.safe[self.left(world, things)])

    def safe_papers(self, world):
        return [things for things in self.sets if self.is_safe(world, things)]

    def fewest(self, world):
        return min(len(things) for things in self.papers(world))

    def fewest_safe(self, world):
        return min(len(things) for things in self.safe_papers(world))

    def fewest_for(self, world, lot):
        """Return the least number of asks behind which the lot is safe, None if there is none."""
        fitting = [len(things) for things in self.sets if lot in self.safe[self.left(world, things)]]
        return min(fitting, default=None)


def lean(sets):
    """Return the sets of which no other one is a subset, ascending."""
    return sorted(things for things in sets if not any(set(one) < set(things) for one in sets))


def most_apart(pairs):
    """Return the greatest number of the pairs no two of which share a thing."""
    if not pairs:
        return 0
    rest = [pair for pair in pairs[1:] if not set(pair) & set(pairs[0])]
    return max(most_apart(pairs[1:]), 1 + most_apart(rest))


def sure_before(stretches, e, f):
    """Return whether e is surely before f as the bounds alone tell."""
    return (stretches[e][1], e) < (stretches[f][0], f)


def loose_of(case, lot):
    return [(e, f) for e, f in case.finder.exchanges[lot] if not sure_before(case.known.stretches, e, f)]


def forced_of(case, world, pairs):
    """Return what the exchanges force, as point 82 words it."""
    stretches = case.known.stretches
    found = [e for e, f in pairs if key(world, f) < (stretches[e][1], e)]
    return tuple(sorted({*found, *[f for e, f in pairs if (stretches[f][0], f) < key(world, e)]}))


ASKINGS = [Asking(case) for case in PLAIN_CASES]
# Those where something must be asked.
OPEN = [asking for asking in ASKINGS if len(asking.case.possible()) > 1]
