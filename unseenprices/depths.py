"""Depths: how many things must get lost before a thing comes into the lot, and what a stock must have."""

from unseenprices.choosing import in_span
from unseenprices.errors import IsDead
from unseenprices.notes import check_sizes
from unseenprices.parting import check_many, divided, taken_by
from unseenprices.rules import check_thing
from unseenprices.sets import along_keys, minus, subsets, world_of
from unseenprices.worlds import before


def check_alive(rule, thing):
    """Return the thing; raises BadThing(thing), and IsDead(thing) if it is dead."""
    held = check_thing(rule, thing)
    if in_span(rule, (), held):
        raise IsDead(held)
    return held


def least_loss(rule, ahead, thing):
    """Return a least subset of the set `ahead` without which the thing, which is not dead, is outside its span."""
    for things in subsets(ahead):
        if not in_span(rule, minus(ahead, things), thing):
            return things
    return ahead


def depth_loss(rule, world, thing):
    """Return a least set of things before the thing behind whose loss the thing is in the lot of the world."""
    prices = world_of(rule.size, world)
    held = check_alive(rule, thing)
    return least_loss(rule, before(prices, held), held)


def depth(rule, world, thing):
    """Return the depth of the thing in the world."""
    return len(depth_loss(rule, world, thing))


def depth_ends(rule, notes, thing):
    """Return the least and the greatest depth of the thing in an agreeing world."""
    check_sizes(rule, notes)
    held = check_alive(rule, thing)
    ends = (notes.must_precede(held), notes.may_precede(held))
    return tuple([len(least_loss(rule, ahead, held)) for ahead in ends])


def stock(rule, world, k):
    """Return the stock of the world for k: it has every lot of the world behind a loss of at most k - 1 things."""
    prices = world_of(rule.size, world)
    return taken_by(divided(rule, along_keys(prices), check_many(k)))
