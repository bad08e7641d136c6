"""Critical prices, up to which a thing stays in the cheapest lots, the worth of things, and what counts."""

from unseenprices.choosing import critical_key, in_span
from unseenprices.errors import IsDead, IsFirm
from unseenprices.notes import agreeing_world, check_plain_for, check_sizes
from unseenprices.reaches import least_price
from unseenprices.rules import all_things, check_thing
from unseenprices.sets import minus, world_of
from unseenprices.worlds import extreme


def critical_price(rule, world, thing):
    """Return the price in the critical key of the thing, None if it is firm, -1 if it is dead."""
    key = critical_key(rule, world, thing)
    if key is None:
        return None
    return key[0] if key else -1


def critical_reach(rule, notes, thing):
    """Return the least and the greatest critical price in an agreeing world of a thing neither dead nor firm."""
    check_sizes(rule, notes)
    least = critical_price(rule, notes.lows, thing)
    if least is None:
        raise IsFirm(thing)
    if least < 0:
        raise IsDead(thing)
    return least, critical_price(rule, notes.highs, thing)


def worth(rule, world, thing):
    """Return how much greater the cheapest price is in the rule without the thing, which is not firm."""
    prices = world_of(rule.size, world)
    critical = critical_price(rule, prices, thing)
    if critical is None:
        raise IsFirm(thing)
    return max(0, critical - prices[thing])


def worth_reach(rule, notes, thing):
    """Return the least and the greatest worth of the thing in an agreeing world; the notes are plain."""
    check_plain_for(rule, notes)
    held = check_thing(rule, thing)
    dear = extreme(notes, (held,))
    cheap = extreme(notes, minus(all_things(rule), (held,)))
    return worth(rule, dear, held), worth(rule, cheap, held)


def known(rule, notes):
    """Return whether the cheapest price is one number in all agreeing worlds; the notes are plain."""
    check_plain_for(rule, notes)
    return least_price(rule, notes.lows) == least_price(rule, notes.highs)


def counts_in(rule, notes, world, thing):
    """Return whether the cheapest price is not known behind asking all other unseen things in the world."""
    check_plain_for(rule, notes)
    prices = agreeing_world(notes, world)
    critical = critical_price(rule, prices, thing)
    if notes.seen(thing):
        return False
    return critical is None or critical > notes.lows[thing]


def counting_verdict(rule, notes, thing):
    """Return "always" if the thing counts in every agreeing world, "never" if in none, otherwise "depends"."""
    check_plain_for(rule, notes)
    held = check_thing(rule, thing)
    least = notes.lows[held]
    others = minus(all_things(rule), (held,))
    if notes.seen(held) or in_span(rule, [one for one in others if notes.highs[one] <= least], held):
        return "never"
    return "depends" if in_span(rule, [one for one in others if notes.lows[one] <= least], held) else "always"
