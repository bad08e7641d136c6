"""Lazy runs, which ask a thing only when it is its turn, and what shows lot and price; the notes are plain."""

from unseenprices.choosing import chosen, in_span
from unseenprices.dues import forced_in
from unseenprices.notes import agreeing_world, check_plain_for
from unseenprices.sets import both
from unseenprices.turned import Turned
from unseenprices.worlds import turned_world


def asked_lazily(rule, notes, world):
    """Return the list of the things that the lazy run from below asks; nothing is checked."""
    taken, asked = (), []
    left = [(low, thing) for thing, low in enumerate(notes.lows)]
    while left:
        first = min(left)
        thing = first[1]
        left = [one for one in left if one != first]
        if in_span(rule, taken, thing):
            continue
        if notes.seen(thing) or thing in asked:
            taken = both(taken, (thing,))
        else:
            asked.append(thing)
            left.append((world[thing], thing))
    return asked


def lazy_below(rule, notes, world):
    """Return the list of the things that the lazy run from below asks in the world, in the order of asking."""
    check_plain_for(rule, notes)
    return asked_lazily(rule, notes, agreeing_world(notes, world))


def lazy_above(rule, notes, world):
    """Return the list of the things that the lazy run from above asks in the world, in the order of asking."""
    check_plain_for(rule, notes)
    prices = agreeing_world(notes, world)
    found = asked_lazily(Turned(rule), ~notes, turned_world(prices))
    return [rule.size - 1 - thing for thing in found]


def lot_and_price(rule, notes, world):
    """Return the set of the things that must be asked so that a lot is sure and the cheapest price known."""
    check_plain_for(rule, notes)
    prices = agreeing_world(notes, world)
    needed = both(chosen(rule, prices), forced_in(rule, notes, prices))
    return tuple([thing for thing in notes.unseen() if thing in needed])
