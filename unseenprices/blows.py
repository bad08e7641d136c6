"""Blows: losses that hit every lot, and how many losses a rule bears."""

from unseenprices.errors import BadNumber, IsBlow
from unseenprices.rules import all_things, basis
from unseenprices.sets import is_count, minus, set_of, subsets


def hits_every_lot(rule, things):
    """Return whether the set, which is not checked, is a blow."""
    return rule.rank_of(minus(all_things(rule), things)) < rule.full


def loss_of(rule, things):
    """Return the set as a tuple; raises BadSet(place), and IsBlow(things) if it is a blow."""
    held = set_of(rule.size, things)
    if hits_every_lot(rule, held):
        raise IsBlow(held)
    return held


def is_blow(rule, things):
    """Return whether every lot has a thing of the set."""
    return hits_every_lot(rule, set_of(rule.size, things))


def missing(rule, things):
    """Return a lot that has no thing of the set, or None if there is none."""
    held = set_of(rule.size, things)
    if hits_every_lot(rule, held):
        return None
    return basis(rule, minus(all_things(rule), held))


def lean_blows(rule):
    """Return the list of all lean blows, ascending; raises TooMany(number) for more than 10 things."""
    return sorted(set([rule.blow_of(lot, thing) for lot in rule.lots() for thing in lot]))


def least_blow(rule):
    """Return the first one of the blows with the fewest things, or None if there is no blow."""
    whole = all_things(rule)
    for things in subsets(whole):
        if hits_every_lot(rule, things):
            return things
    return None


def strength(rule):
    """Return the number of things in a least blow, or None if there is no blow."""
    least = least_blow(rule)
    return None if least is None else len(least)


def bears(rule, number):
    """Return whether no loss of at most so many things is a blow."""
    if not is_count(number):
        raise BadNumber("number")
    most = strength(rule)
    return most is None or most > number
