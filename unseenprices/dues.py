"""What is due: the things that must be asked in a told world before a lot is sure; the notes are plain."""

from unseenprices.choosing import chosen
from unseenprices.errors import IsSeen
from unseenprices.judging import is_in, is_out
from unseenprices.notes import agreeing_world, check_plain, check_plain_for
from unseenprices.rules import all_things, check_thing
from unseenprices.sets import minus, thing_of


def near(notes, thing):
    """Return the world with the thing at its low and every other thing as near to it as its stretch allows."""
    check_plain(notes)
    held = thing_of(notes.size, thing)
    if notes.seen(held):
        raise IsSeen(held)
    return near_world(notes, held)


def near_world(notes, thing):
    """Return what near returns; nothing is checked."""
    least = notes.lows[thing]
    goals = [least + 1 if one < thing else least for one in range(notes.size)]
    return tuple([max(low, min(high, goal)) for low, high, goal in zip(notes.lows, notes.highs, goals)])


def forced_by(notes, world, pair):
    """Return the list of the things of an exchange that it forces in the world; nothing is checked."""
    e, f = pair
    found = []
    if (world[f], f) < (notes.highs[e], e):
        found.append(e)
    if (notes.lows[f], f) < (world[e], e):
        found.append(f)
    return found


def forced_in(rule, notes, world):
    """Return the set of the forced things in an agreeing world; nothing is checked."""
    pairs = rule.exchanges(chosen(rule, world))
    return tuple(sorted(set([thing for pair in pairs for thing in forced_by(notes, world, pair)])))


def forced_things(rule, notes, world):
    """Return the set of the forced things."""
    check_plain_for(rule, notes)
    return forced_in(rule, notes, agreeing_world(notes, world))


def is_due(rule, notes, world, thing):
    """Return whether the thing is unseen and no lot is sure behind asking all other unseen things in the world."""
    check_plain_for(rule, notes)
    prices = agreeing_world(notes, world)
    return check_thing(rule, thing) in forced_in(rule, notes, prices)


def pressing(rule, notes):
    """Return the set of the things that are due in every agreeing world."""
    check_plain_for(rule, notes)
    return minus(chosen(rule, notes.lows), chosen(rule, notes.highs))


def is_idle(rule, notes, thing):
    """Return whether the thing is due in no agreeing world; nothing is checked."""
    return notes.seen(thing) or is_in(rule, notes, thing) or is_out(rule, notes, thing)


def useful(rule, notes):
    """Return the set of the things that are due in some agreeing world."""
    check_plain_for(rule, notes)
    return tuple([thing for thing in all_things(rule) if not is_idle(rule, notes, thing)])


def ask_verdict(rule, notes, thing):
    """Return "pressing" if the thing is due in every agreeing world, "idle" if in none, otherwise "wavers"."""
    check_plain_for(rule, notes)
    held = check_thing(rule, thing)
    if held in pressing(rule, notes):
        return "pressing"
    return "idle" if is_idle(rule, notes, held) else "wavers"


def due_world(rule, notes, thing):
    """Return an agreeing world in which the thing is due, or None if it is idle."""
    check_plain_for(rule, notes)
    held = check_thing(rule, thing)
    return None if is_idle(rule, notes, held) else near_world(notes, held)


def spare_world(rule, notes, thing):
    """Return an agreeing world in which the thing is not due, lows ahead of highs, or None if it is pressing."""
    check_plain_for(rule, notes)
    held = check_thing(rule, thing)
    for world in (notes.lows, notes.highs):
        if held not in forced_in(rule, notes, world):
            return world
    return None
