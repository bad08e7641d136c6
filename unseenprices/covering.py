"""Lots apart, covers, and what lots apart cost together."""

from unseenprices.errors import BadNumber
from unseenprices.parting import check_many, crowd, divided, taken_by, too_full
from unseenprices.rules import all_things
from unseenprices.sets import along_keys, is_count, world_of


def apart_from(rule, row, k):
    """Return k lots apart that are taken from a row of all things, or None if there are none; r is at least 1."""
    sets = divided(rule, row, k)
    return sets if len(taken_by(sets)) == k * rule.full else None


def lots_apart(rule, k):
    """Return a list of k lots apart, or None if there are none."""
    many = check_many(k)
    if rule.full == 0:
        return [() for _ in range(many)]
    return apart_from(rule, all_things(rule), many)


def few_outside(rule, k):
    """Return a set Z with fewer than k * (r - rank(Z)) things outside it, or None if there are k lots apart."""
    many = check_many(k)
    things = all_things(rule)
    sets = divided(rule, things, many)
    if len(taken_by(sets)) == many * rule.full:
        return None
    return crowd(rule, things, sets)


def most_apart(rule):
    """Return the greatest k for which there are k lots apart, or None if the rank of all is 0."""
    if rule.full == 0:
        return None
    k = rule.size // rule.full
    while apart_from(rule, all_things(rule), k) is None:
        k -= 1
    return k


def covers(rule):
    """Return a cover with the least number of sets, none of them empty, or None if a thing is dead."""
    if rule.dead():
        return None
    things = all_things(rule)
    sets = []
    while taken_by(sets) != things:
        sets = divided(rule, things, len(sets) + 1)
    return sets


def fullest(rule):
    """Return a set A whose |A| / rank(A), rounded up, is the number of sets of covers; None if there are no things.

    If a thing is dead, it is the set of the least dead thing alone.
    """
    dead = rule.dead()
    if dead:
        return dead[:1]
    if rule.size == 0:
        return None
    many = len(covers(rule))
    return all_things(rule) if many == 1 else too_full(rule, all_things(rule), many - 1)


def lot_prices(rule, world, most):
    """Return the list of the least prices that 0, 1, .., most lots apart have together, None for too many lots."""
    prices = world_of(rule.size, world)
    if not is_count(most):
        raise BadNumber("most")
    if rule.full == 0:
        return [0 for _ in range(most + 1)]
    found = [0]
    row = along_keys(prices)
    while len(found) <= most and found[-1] is not None:
        # The lot of the world under Many(rule, k) costs what the k lots apart of the least price cost.
        sets = apart_from(rule, row, len(found))
        found.append(None if sets is None else sum([prices[thing] for thing in taken_by(sets)]))
    return found + [None for _ in range(most + 1 - len(found))]
