"""Notes: what is known of the prices of the things, by stretches and by comparisons."""

from unseenprices.bounds import bounds, lifted, lowered
from unseenprices.comparing import pairs_of, reached_from, told_order
from unseenprices.errors import BadNumber, BadPair, BadStretch, NotAgreeing, NotPlain, OtherSize
from unseenprices.sets import is_before, is_count, set_of, thing_of, world_of
from unseenprices.stretches import is_stretch, stretches_of


class Notes:
    """What is known of the prices: a stretch for each thing, and comparisons. Notes are never changed."""

    TOP = 1000000

    def __init__(self, stretches, *, pairs=()):
        self.stretches = stretches_of(stretches)
        self.size = len(self.stretches)
        self.pairs = pairs_of(self.size, pairs)
        self.lows, self.highs = bounds(self.stretches, self.pairs)
        self._plain = self.pairs == ()
        # For each thing the things to which a row leads from it.
        self._later = tuple([reached_from(self.pairs, thing) for thing in range(self.size)])

    @classmethod
    def unknown(cls, size, *, pairs=()):
        """Return notes of so many things of whose prices nothing but the comparisons is known."""
        if not is_count(size):
            raise BadNumber("size")
        stretch = (0, cls.TOP)
        return cls([stretch for _ in range(size)], pairs=pairs)

    @classmethod
    def along(cls, order):
        """Return notes in which nothing but the order of the things is known."""
        held = told_order(len(order), order)
        return cls.unknown(len(held), pairs=list(zip(held, held[1:])))

    @property
    def plain(self):
        """Whether there are no comparisons."""
        return self._plain

    def __len__(self):
        return len(self.stretches)

    def __eq__(self, other):
        return isinstance(other, Notes) and self.stretches == other.stretches and self.pairs == other.pairs

    def __add__(self, other):
        if not isinstance(other, Notes):
            return NotImplemented
        moved = tuple([(one + self.size, second + self.size) for one, second in other.pairs])
        return Notes(self.stretches + other.stretches, pairs=self.pairs + moved)

    def __invert__(self):
        last = self.size - 1
        told = [(self.TOP - high, self.TOP - low) for low, high in self.stretches[::-1]]
        return Notes(told, pairs=[(last - other, last - one) for one, other in self.pairs])

    def seen(self, thing):
        """Return whether the thing is seen."""
        held = thing_of(self.size, thing)
        return self.lows[held] == self.highs[held]

    def unseen(self):
        """Return the set of the unseen things."""
        return tuple([thing for thing in range(self.size) if self.lows[thing] < self.highs[thing]])

    def sure_before(self, one, other):
        """Return whether one thing is before the other in every agreeing world."""
        return surely_before(self, thing_of(self.size, one), thing_of(self.size, other))

    def later(self, thing):
        """Return the set of the things to which a row leads from the thing, which is not checked."""
        return self._later[thing]

    def must_precede(self, thing):
        """Return S(thing), the set of the things that are surely before the thing."""
        held = thing_of(self.size, thing)
        return tuple([one for one in range(self.size) if surely_before(self, one, held)])

    def may_precede(self, thing):
        """Return U(thing), the set of the other things which the thing is not surely before."""
        held = thing_of(self.size, thing)
        return tuple([one for one in range(self.size) if one != held and not surely_before(self, held, one)])

    def earliest(self, thing):
        """Return the greatest agreeing world in which the thing has its low."""
        price = self.lows[thing_of(self.size, thing)]
        return lowered(with_stretch(self.stretches, thing, (price, price)), self.pairs)

    def latest(self, thing):
        """Return the least agreeing world in which the thing has its high."""
        price = self.highs[thing_of(self.size, thing)]
        return lifted(with_stretch(self.stretches, thing, (price, price)), self.pairs)

    def agrees(self, world):
        """Return whether the world agrees."""
        return misfit(self, world_of(self.size, world)) is None

    def ask(self, thing, price):
        """Return the notes in which the price of the thing is known."""
        return self.narrow(thing, price, price)

    def narrow(self, thing, low, high):
        """Return the notes with the told stretch (low, high), which lies in the one there was, for the thing."""
        least, most = self.stretches[thing_of(self.size, thing)]
        if not is_stretch((low, high)) or low < least or high > most:
            raise BadStretch(thing)
        return Notes(with_stretch(self.stretches, thing, (low, high)), pairs=self.pairs)

    def compare(self, one, other):
        """Return the notes with this comparison added."""
        pair = (thing_of(self.size, one), thing_of(self.size, other))
        if one == other:
            raise BadPair(0)
        return Notes(self.stretches, pairs=(*self.pairs, pair))

    def after(self, things, world):
        """Return the notes behind asking the things of the set in the world."""
        held = set_of(self.size, things)
        prices = agreeing_world(self, world)
        told = self.stretches
        for thing in held:
            told = with_stretch(told, thing, (prices[thing], prices[thing]))
        return Notes(told, pairs=self.pairs)


def with_stretch(stretches, thing, stretch):
    """Return the stretches with another one for the thing."""
    return (*stretches[:thing], stretch, *stretches[thing + 1:])


def surely_before(notes, one, other):
    """Return whether one thing is surely before the other; the things are not checked."""
    return other in notes.later(one) or (notes.highs[one], one) < (notes.lows[other], other)


def misfit(notes, world):
    """Return the thing that tells why a world, otherwise checked, does not agree, or None if it agrees."""
    for thing, (low, high) in enumerate(notes.stretches):
        if world[thing] < low or world[thing] > high:
            return thing
    for one, other in notes.pairs:
        if not is_before(world, one, other):
            return one
    return None


def agreeing_world(notes, prices):
    """Return the prices of an agreeing world as a tuple; raises BadWorld(place) and NotAgreeing(thing)."""
    world = world_of(notes.size, prices)
    thing = misfit(notes, world)
    if thing is not None:
        raise NotAgreeing(thing)
    return world


def check_sizes(rule, notes):
    """Raise OtherSize(size) if the rule and the notes have different numbers of things."""
    if rule.size != notes.size:
        raise OtherSize(notes.size)


def check_plain(notes):
    """Raise NotPlain() if the notes have comparisons."""
    if not notes.plain:
        raise NotPlain()


def check_plain_for(rule, notes):
    """Raise what comes first where a rule and plain notes are asked for: OtherSize(size), then NotPlain()."""
    check_sizes(rule, notes)
    check_plain(notes)
