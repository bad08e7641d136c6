"""Stand-ins: the lot that is left behind a loss, and the things that come for those that get lost."""

from unseenprices.blows import hits_every_lot, loss_of
from unseenprices.choosing import chosen, critical_key
from unseenprices.errors import IsBlow, Twice
from unseenprices.notes import check_plain_for, surely_before
from unseenprices.rules import check_thing
from unseenprices.sets import minus, world_of
from unseenprices.shapes import Less
from unseenprices.surelots import sure_lot


def lot_left(rule, world, things):
    """Return the lot of the world behind the loss of the set."""
    prices = world_of(rule.size, world)
    return chosen(Less(rule, loss_of(rule, things)), prices)


def comes(rule, world, thing):
    """Return the thing that comes for this one, or None if this one is not in the lot of the world."""
    prices = world_of(rule.size, world)
    held = check_thing(rule, thing)
    key = critical_key(rule, prices, held)
    if key is None:
        raise IsBlow((held,))
    return key[1] if (prices[held], held) < key else None


def different_things(rule, row):
    """Return the row of different things as a tuple; raises BadThing(thing) or Twice(place)."""
    for place, thing in enumerate(row):
        if check_thing(rule, thing) in row[:place]:
            raise Twice(place)
    return tuple(row)


def trail(rule, world, row):
    """Return a list with a pair for each thing of the row, lost in this order: the thing and what comes for it."""
    prices = world_of(rule.size, world)
    lost = different_things(rule, row)
    loss_of(rule, sorted(lost))
    return [
        (thing, comes(Less(rule, sorted(lost[:place])), prices, thing))
        for place, thing in enumerate(lost)
    ]


def comers(rule, notes, thing):
    """Return the set of the things that could come for a thing of the sure lot, or None; raises as may_come."""
    check_plain_for(rule, notes)
    held = check_thing(rule, thing)
    if hits_every_lot(rule, (held,)):
        raise IsBlow((held,))
    lot = sure_lot(rule, notes)
    if lot is None or held not in lot:
        return None
    return minus(rule.blow_of(lot, held), (held,))


def may_come(rule, notes, thing):
    """Return the set of the things that come for this one in some agreeing world.

    None if no lot is sure or this one is not in the sure lot; the notes are plain.
    """
    found = comers(rule, notes, thing)
    if found is None:
        return None
    return tuple([f for f in found if not any([surely_before(notes, one, f) for one in found])])


def must_come(rule, notes, thing):
    """Return the set of the things that come for this one in every agreeing world; otherwise as may_come."""
    found = comers(rule, notes, thing)
    if found is None:
        return None
    return tuple([f for f in found if all([surely_before(notes, f, one) for one in minus(found, (f,))])])
