"""Comparisons: which of two things comes first, rows and rings of comparisons, and orders in which all are true."""

from unseenprices.errors import BadOrder, BadPair
from unseenprices.sets import is_below, thing_of


def is_comparison(size, value):
    """Return whether the value, of whatever kind, is a tuple of two different things."""
    if not isinstance(value, tuple) or len(value) != 2:
        return False
    one, other = value
    return is_below(one, size) and is_below(other, size) and one != other


def pairs_of(size, told):
    """Return the comparisons as a tuple, in ascending order, each once; raises BadPair(place)."""
    for place, pair in enumerate(told):
        if not is_comparison(size, pair):
            raise BadPair(place)
    return tuple(sorted(set(told)))


def steps_to(pairs, goal):
    """Return a dict of the least number of comparisons that lead to the goal, 0 for the goal itself."""
    steps = {goal: 0}
    many = 0
    level = [goal]
    while level:
        many += 1
        level = sorted(set([one for one, other in pairs if other in level and one not in steps]))
        for thing in level:
            steps[thing] = many
    return steps


def least_row(pairs, one, other):
    """Return what row_between returns; nothing is checked."""
    steps = steps_to(pairs, other)
    row = [one]
    while len(row) == 1 or row[-1] != other:
        nearer = [(steps[second], second) for first, second in pairs if first == row[-1] and second in steps]
        if not nearer:
            return None
        row.append(min(nearer)[1])
    return tuple(row)


def row_between(size, pairs, one, other):
    """Return a row from one thing to the other with the fewest things, the least such tuple, or None."""
    told = pairs_of(size, pairs)
    return least_row(told, thing_of(size, one), thing_of(size, other))


def ring_in(size, pairs):
    """Return the row from a thing to itself, for the least thing that a ring holds, or None."""
    told = pairs_of(size, pairs)
    for thing in range(size):
        row = least_row(told, thing, thing)
        if row is not None:
            return row
    return None


def reached_from(pairs, thing):
    """Return what behind returns; nothing is checked."""
    reached = []
    level = [thing]
    while level:
        level = sorted(set([second for first, second in pairs if first in level and second not in reached]))
        reached = reached + level
    return tuple(sorted(reached))


def behind(size, pairs, thing):
    """Return the set of the things to which a row leads from the thing."""
    told = pairs_of(size, pairs)
    return reached_from(told, thing_of(size, thing))


def forward(size, pairs):
    """Return the least order in which all comparisons are true, or None if there is no such order."""
    left = list(range(size))
    told = list(pairs_of(size, pairs))
    order = []
    while left:
        held = [other for _, other in told]
        ready = [thing for thing in left if thing not in held]
        if not ready:
            return None
        order.append(ready[0])
        left = [thing for thing in left if thing != ready[0]]
        told = [(one, other) for one, other in told if one != ready[0]]
    return tuple(order)


def told_order(size, order):
    """Return the order of so many things as a tuple; raises BadOrder(place)."""
    for place in range(size):
        if place >= len(order) or not is_below(order[place], size) or order[place] in order[:place]:
            raise BadOrder(place)
    if len(order) > size:
        raise BadOrder(size)
    return tuple(order)
