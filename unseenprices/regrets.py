"""Regret: how much more a lot can cost than the cheapest ones; the notes are plain."""

from unseenprices.choosing import chosen
from unseenprices.notes import check_plain_for
from unseenprices.reaches import least_price, total
from unseenprices.rules import all_things, check_lot, swaps
from unseenprices.sets import minus
from unseenprices.worlds import extreme


def lot_for(rule, notes, lot):
    """Return the lot as a tuple; raises what the functions of this file raise."""
    check_plain_for(rule, notes)
    return check_lot(rule, lot)


def regret_in(rule, world, lot):
    """Return how much more the lot costs in the world than the cheapest ones; nothing is checked."""
    return total(world, lot) - least_price(rule, world)


def regret(rule, notes, lot):
    """Return the greatest regret of the lot in an agreeing world."""
    held = lot_for(rule, notes, lot)
    return regret_in(rule, extreme(notes, held), held)


def regret_worlds(rule, notes, lot):
    """Return an agreeing world in which the regret of the lot is least, and one in which it is greatest."""
    held = lot_for(rule, notes, lot)
    return extreme(notes, minus(all_things(rule), held)), extreme(notes, held)


def regret_reach(rule, notes, lot):
    """Return the least and the greatest regret of the lot in an agreeing world."""
    held = lot_for(rule, notes, lot)
    least, most = regret_worlds(rule, notes, held)
    return regret_in(rule, least, held), regret_in(rule, most, held)


def gaps(rule, notes, lot):
    """Return the pairs of a thing of the lot and the most that one exchange of it can save, at least 0."""
    held = lot_for(rule, notes, lot)
    pairs = rule.exchanges(held)
    return [
        (thing, max([0, *[notes.highs[e] - notes.lows[f] for e, f in pairs if e == thing]]))
        for thing in held
    ]


def swap_row(rule, notes, lot):
    """Return exchanges of the lot, no two of which share a thing, whose sum of high(e) - low(f) is its regret."""
    held = lot_for(rule, notes, lot)
    return swaps(rule, held, chosen(rule, extreme(notes, held)))
