"""The connected parts of a rule, and circuits through two things."""

from unseenprices.nets import Net, pieces
from unseenprices.rules import all_things, basis, check_thing, exchanges_with
from unseenprices.sets import minus, set_of


def parts_among(rule, things):
    """Return the parts of the rule in which only these things are left; each other thing is a part alone."""
    lot = basis(rule, things)
    lines = exchanges_with(rule, lot, lot, minus(things, lot))
    return pieces(Net(rule.size, lines), list(range(len(lines))))


def are_connected(rule, things, one, other):
    """Return whether some circuit with both things has only these things."""
    return any([one in part and other in part for part in parts_among(rule, things)])


def parts(rule):
    """Return the list of the parts, in ascending order of their least things."""
    return parts_among(rule, all_things(rule))


def part_of(rule, thing):
    """Return the part that has the thing."""
    held = check_thing(rule, thing)
    return [part for part in parts(rule) if held in part][0]


def joined(rule, one, other):
    """Return a circuit that has both things, () if they are the same thing, None if there is no such circuit."""
    left = part_of(rule, one)
    check_thing(rule, other)
    if one == other:
        return ()
    if other not in left:
        return None
    # Where no more thing can go, a circuit that has both things is all that is left.
    for thing in minus(left, (one, other)):
        fewer = minus(left, (thing,))
        if are_connected(rule, fewer, one, other):
            left = fewer
    return left


def lacks(rule, things):
    """Return how much the ranks of the set and of all other things have together above the rank of all."""
    held = set_of(rule.size, things)
    return rule.rank_of(held) + rule.rank_of(minus(all_things(rule), held)) - rule.full
