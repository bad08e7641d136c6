"""What the points say of notes and of the lots of worlds, worked out by going through all worlds, and small notes."""

import random
from itertools import combinations, product

from unseenprices.notes import Notes
from unseenprices.sets import TOP


def key(world, thing):
    return (world[thing], thing)


def is_true(world, pairs):
    return all(key(world, x) < key(world, y) for x, y in pairs)


def agreeing(stretches, pairs):
    """Return all worlds that agree, ascending, as point 31 words it."""
    prices = [range(low, high + 1) for low, high in stretches]
    return [world for world in product(*prices) if is_true(world, pairs)]


def least_of(worlds):
    """Return the world with the least price of each thing."""
    return tuple(min(prices) for prices in zip(*worlds))


def greatest_of(worlds):
    return tuple(max(prices) for prices in zip(*worlds))


def rise_of(row):
    return sum(1 for x, y in zip(row, row[1:]) if x > y)


def is_row(row, pairs):
    return isinstance(row, tuple) and len(row) >= 2 and all(step in pairs for step in zip(row, row[1:]))


def is_bad_row(row, stretches, pairs):
    """Return whether this is a row that is a ring or clashes, as point 33 words it."""
    if not is_row(row, pairs):
        return False
    return row[0] == row[-1] or stretches[row[0]][0] + rise_of(row) > stretches[row[-1]][1]


def later_of(size, pairs, thing):
    """Return the things to which a row leads from the thing."""
    found = {y for x, y in pairs if x == thing}
    for _ in range(size):
        found |= {y for x, y in pairs if x in found}
    return found


class Known:
    """Stretches and comparisons with all their agreeing worlds; notes of them only where some world agrees."""

    def __init__(self, stretches, pairs):
        self.stretches = tuple(stretches)
        self.pairs = tuple(pairs)
        self.size = len(self.stretches)
        self.worlds = agreeing(self.stretches, self.pairs)
        self.notes = Notes(self.stretches, pairs=self.pairs) if self.worlds else None

    def before_in_all(self, x, y):
        return x != y and all(key(world, x) < key(world, y) for world in self.worlds)


def all_pairs(size):
    return [(x, y) for x in range(size) for y in range(size) if x != y]


def all_stretches(most):
    return [(low, high) for low in range(most + 1) for high in range(low, most + 1)]


def every_small():
    """Return all stretches and comparisons of two things up to the price 2, and of three up to the price 1."""
    found = []
    for size, most in ((2, 2), (3, 1)):
        for many in range(size * (size - 1) + 1):
            for pairs in combinations(all_pairs(size), many):
                found += [(row, pairs) for row in product(all_stretches(most), repeat=size)]
    return found


def some_stretch(chance, most):
    low = chance.randrange(most + 1)
    return (low, min(most, low + chance.choice((0, 1, 1, 2, 3, 4))))


def some_told(chance, size, many, most=4):
    """Return stretches and comparisons at random; the prices are low ones, or they end at TOP."""
    shift = chance.choice((0, 0, TOP - most, 70))
    row = [some_stretch(chance, most) for _ in range(size)]
    pairs = [chance.choice(all_pairs(size)) for _ in range(many)] if size > 1 else []
    return tuple((low + shift, high + shift) for low, high in row), tuple(pairs)


def some_known(chance, size, many, most=4):
    """Return stretches and comparisons for which some world agrees."""
    while True:
        known = Known(*some_told(chance, size, many, most))
        if known.worlds:
            return known


def small_known():
    """Return small notes, plain ones and others, each with all its worlds."""
    chance = random.Random(31)
    found = [Known((), ()), Known(((0, TOP - TOP),), ()), Known(((3, 3), (3, 3)), ((0, 1),))]
    for size, times in ((1, 3), (2, 8), (3, 14), (4, 14)):
        for _ in range(times):
            found += [some_known(chance, size, 0), some_known(chance, size, chance.randrange(1, size + 2))]
    found.append(Known(((0, 3), (0, 3), (0, 3), (0, 3)), ((3, 2), (2, 1), (1, 0))))
    found.append(Known(((0, 2), (0, 2), (0, 2), (0, 2)), ((1, 2), (3, 0))))
    return found


SMALL_KNOWN = small_known()


def plain_for(chance, size):
    """Return small plain notes of so many things with a few hundred worlds at most."""
    return some_known(chance, size, 0, 4 if size < 5 else 2)


def known_for(chance, size):
    """Return small notes of so many things with comparisons, with a few hundred worlds at most."""
    return some_known(chance, size, chance.randrange(1, size + 2), 4 if size < 5 else 2)


class Lots:
    """The lots of worlds under a rule, found among all its lots by their exchanges."""

    def __init__(self, meaning):
        self.meaning = meaning
        self.exchanges = {lot: meaning.exchanges(lot) for lot in meaning.lots}

    def lot(self, world):
        """Return the only lot whose exchanges are all in order, as point 46 words it."""
        found = [lot for lot, pairs in self.exchanges.items() if is_true(world, pairs)]
        if len(found) != 1:
            raise AssertionError(f"{len(found)} lots are in order in {world}")
        return found[0]

    def taken(self, world):
        """Return the lot that is taken along the keys, as point 27 words it."""
        found = ()
        for thing in sorted(range(self.meaning.size), key=lambda x: key(world, x)):
            if tuple(sorted((*found, thing))) in self.meaning.free:
                found = tuple(sorted((*found, thing)))
        return found

    def price(self, world):
        """Return the price of the cheapest lots."""
        return min(sum(world[x] for x in lot) for lot in self.meaning.lots)

    def cheapest(self, world):
        """Return all cheapest lots, ascending."""
        price = self.price(world)
        return [lot for lot in self.meaning.lots if sum(world[x] for x in lot) == price]
