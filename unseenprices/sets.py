"""Sets of things as ascending tuples, worlds, and what kind of number a value is."""

from unseenprices.errors import BadSet, BadThing, BadWorld

TOP = 1000000


def is_count(value):
    """Return whether the value is an integer of at least 0."""
    return isinstance(value, int) and not isinstance(value, bool) and value >= 0


def is_below(value, bound):
    """Return whether the value is an integer from 0 to bound - 1."""
    return is_count(value) and value < bound


def is_price(value):
    """Return whether the value is a price."""
    return is_below(value, TOP + 1)


def bad_place(size, things):
    """Return the least place at which the things do not make a set, or None if they make one."""
    for place, thing in enumerate(things):
        if not is_below(thing, size) or (place > 0 and thing <= things[place - 1]):
            return place
    return None


def is_set(size, value):
    """Return whether the value, of whatever kind, is a set of things."""
    return isinstance(value, (tuple, list)) and bad_place(size, value) is None


def set_of(size, things):
    """Return the set as a tuple; raises BadSet(place)."""
    place = bad_place(size, things)
    if place is not None:
        raise BadSet(place)
    return tuple(things)


def thing_of(size, thing):
    """Return the thing; raises BadThing(thing)."""
    if not is_below(thing, size):
        raise BadThing(thing)
    return thing


def world_of(size, prices):
    """Return the world of so many things as a tuple; raises BadWorld(place)."""
    for place in range(size):
        if place >= len(prices) or not is_price(prices[place]):
            raise BadWorld(place)
    if len(prices) > size:
        raise BadWorld(size)
    return tuple(prices)


def along_keys(world):
    """Return the list of the things in the order of their keys in the world, which is not checked."""
    return [thing for _, thing in sorted([(price, thing) for thing, price in enumerate(world)])]


def is_before(world, one, other):
    """Return whether one thing is before the other in the world; nothing is checked."""
    return (world[one], one) < (world[other], other)


def both(one, other):
    """Return the set one + other."""
    return tuple(sorted(set(one) | set(other)))


def common(one, other):
    """Return the set one & other."""
    return tuple(sorted(set(one) & set(other)))


def minus(one, other):
    """Return the set one - other."""
    return tuple(sorted(set(one) - set(other)))


def turned_set(size, things):
    """Return the set of all size - 1 - x with x in the set; raises BadSet(place)."""
    held = set_of(size, things)
    return tuple([size - 1 - thing for thing in held[::-1]])


def turned_rest(size, things):
    """Return the set of all size - 1 - x with x a thing that is not in the set; raises BadSet(place)."""
    return minus(list(range(size)), turned_set(size, things))


def subsets(things):
    """Yield all subsets of a set: those with fewer things first, equally many in ascending order."""
    level = [((), tuple(things))]
    while level:
        for taken, _ in level:
            yield taken
        level = [((*taken, rest[at]), rest[at + 1:]) for taken, rest in level for at in range(len(rest))]
