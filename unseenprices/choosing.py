"""Choosing in a world whose prices are all known: the lot of the world, and how far other lots are from it."""

from unseenprices.errors import BadWorld
from unseenprices.rules import all_things, basis, check_lot, check_thing
from unseenprices.sets import along_keys, both, is_before, minus, set_of, world_of


def chosen(rule, prices):
    """Return the lot of a world that has been checked."""
    return basis(rule, along_keys(prices))


def lot_of(rule, world):
    """Return the lot of the world."""
    return chosen(rule, world_of(rule.size, world))


def price_of(world, things):
    """Return the sum of the prices of the things of the set in the world."""
    prices = world_of(len(world), world)
    return sum([prices[thing] for thing in set_of(len(prices), things)])


def first_or_none(found):
    """Return the first entry of the list, or None if there is none."""
    return found[0] if found else None


def out_of_order(rule, lot, world):
    """Return the least exchange of the lot that is not in order in the world, or None."""
    held = check_lot(rule, lot)
    prices = world_of(rule.size, world)
    return first_or_none([(e, f) for e, f in rule.exchanges(held) if not is_before(prices, e, f)])


def dearer(rule, lot, world):
    """Return the least exchange (e, f) of the lot for which e costs more than f in the world, or None."""
    held = check_lot(rule, lot)
    prices = world_of(rule.size, world)
    return first_or_none([(e, f) for e, f in rule.exchanges(held) if prices[e] > prices[f]])


def in_span(rule, things, thing):
    """Return whether the thing is in the span of the set; nothing is checked."""
    return rule.rank_of(both(things, (thing,))) == rule.rank_of(tuple(things))


def critical_key(rule, world, thing):
    """Return the critical key of the thing in the world, None if the thing is firm, () if it is dead."""
    prices = world_of(rule.size, world)
    held = check_thing(rule, thing)
    if in_span(rule, (), held):
        return ()
    passed = ()
    for one in along_keys(prices):
        if one != held:
            passed = both(passed, (one,))
            if in_span(rule, passed, held):
                return (prices[one], one)
    return None


def moved(rule, world, other):
    """Return the exchange that turns the lot of a world into that of another one, or () if the lots are equal.

    The two worlds differ at one thing.
    """
    prices = world_of(rule.size, world)
    changed = world_of(rule.size, other)
    places = [thing for thing in all_things(rule) if prices[thing] != changed[thing]]
    if len(places) != 1:
        raise BadWorld(places[1] if places else rule.size)
    one = chosen(rule, prices)
    second = chosen(rule, changed)
    return minus(one, second) + minus(second, one)
