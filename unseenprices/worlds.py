"""Worlds: those that agree with notes, ways from one to another, and what is before what in them."""

from unseenprices.comparing import told_order
from unseenprices.errors import BadWorld, TooMany
from unseenprices.notes import agreeing_world, check_plain
from unseenprices.sets import TOP, along_keys, is_before, set_of, thing_of, world_of

MOST_WORLDS = 5000


def choices(notes):
    """Return the product of the numbers of prices from low to high, over all things."""
    many = 1
    for low, high in zip(notes.lows, notes.highs):
        many = many * (high - low + 1)
    return many


def is_true(notes, world):
    """Return whether all comparisons are true in the world, which is not checked."""
    return all([is_before(world, one, other) for one, other in notes.pairs])


def worlds(notes):
    """Yield all agreeing worlds, in ascending order of their tuples; raises TooMany(number) ahead of the first."""
    many = choices(notes)
    if many > MOST_WORLDS:
        raise TooMany(many)
    rows = [()]
    for low, high in zip(notes.lows, notes.highs):
        rows = [(*row, price) for row in rows for price in range(low, high + 1)]
    for row in rows:
        if is_true(notes, row):
            yield row


def count_worlds(notes):
    """Return the number of the worlds that agree with plain notes."""
    check_plain(notes)
    return choices(notes)


def raised_once(notes, world, most):
    """Return the world with the least thing raised by 1 whose raising gives an agreeing world up to `most`."""
    for thing, price in enumerate(world):
        grown = (*world[:thing], price + 1, *world[thing + 1:])
        if price < most[thing] and is_true(notes, grown):
            return grown
    return world


def climb(notes, world, other):
    """Return a list of agreeing worlds from one world up to the other, each time with one price raised by 1."""
    first = agreeing_world(notes, world)
    last = agreeing_world(notes, other)
    for thing in range(notes.size):
        if first[thing] > last[thing]:
            raise BadWorld(thing)
    many = sum(last) - sum(first) + 1
    if many > MOST_WORLDS:
        raise TooMany(many)
    found = [first]
    while found[-1] != last:
        found.append(raised_once(notes, found[-1], last))
    return found


def turned_world(world):
    """Return the turned world, in which x has TOP less the price of the thing as far from the other end."""
    return tuple([TOP - price for price in world_of(len(world), world)[::-1]])


def before(world, thing):
    """Return the set of the things that are before the thing in the world."""
    prices = world_of(len(world), world)
    held = thing_of(len(prices), thing)
    return tuple([one for one in range(len(prices)) if is_before(prices, one, held)])


def order_of(world):
    """Return the order in which each thing stands behind all things that are before it in the world."""
    return tuple(along_keys(world_of(len(world), world)))


def world_along(order):
    """Return the world of the order: its first thing costs 0, the second 1, and so on."""
    held = told_order(len(order), order)
    return tuple([held.index(thing) for thing in range(len(held))])


def extreme(notes, things):
    """Return the world with these things at their highs and the others at their lows."""
    check_plain(notes)
    held = set_of(notes.size, things)
    return tuple([notes.highs[x] if x in held else notes.lows[x] for x in range(notes.size)])
