"""The cheapest price, what it can be over the agreeing worlds, and how the prices of two lots compare."""

from unseenprices.choosing import chosen
from unseenprices.comparing import forward
from unseenprices.notes import check_plain_for, check_sizes
from unseenprices.rules import check_lot
from unseenprices.sets import minus, world_of


def total(prices, things):
    """Return the sum of the prices of the things; nothing is checked."""
    return sum([prices[thing] for thing in things])


def least_price(rule, world):
    """Return the price of the cheapest lots in a world that has been checked."""
    return total(world, chosen(rule, world))


def cheapest(rule, world):
    """Return the price of the cheapest lots in the world."""
    return least_price(rule, world_of(rule.size, world))


def price_reach(rule, notes):
    """Return the least and the greatest price of the cheapest lots in an agreeing world."""
    check_sizes(rule, notes)
    return least_price(rule, notes.lows), least_price(rule, notes.highs)


def with_price(world, thing, price):
    """Return the world with another price of the thing."""
    return (*world[:thing], price, *world[thing + 1:])


def world_at(rule, notes, price):
    """Return an agreeing world in which the cheapest lots have this price, or None if there is none."""
    check_sizes(rule, notes)
    world = notes.lows
    if price < least_price(rule, world):
        return None
    # A thing can be raised straight to its high once all things to which a row leads from it are at theirs. While one
    # thing is raised, the cheapest price grows by as much as its own price, until it stays.
    for thing in forward(notes.size, notes.pairs)[::-1]:
        raised = with_price(world, thing, notes.highs[thing])
        if least_price(rule, raised) >= price:
            return with_price(world, thing, world[thing] + price - least_price(rule, world))
        world = raised
    return world if least_price(rule, world) == price else None


def between_lots(rule, notes, lot, other):
    """Return the least and the greatest price of the lot less that of the other one; the notes are plain."""
    check_plain_for(rule, notes)
    held = check_lot(rule, lot)
    second = check_lot(rule, other)
    ours, theirs = minus(held, second), minus(second, held)
    least = total(notes.lows, ours) - total(notes.highs, theirs)
    return least, total(notes.highs, ours) - total(notes.lows, theirs)
