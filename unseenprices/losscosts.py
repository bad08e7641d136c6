"""What a loss costs: how much dearer the cheapest lots are behind it."""

from unseenprices.blows import loss_of
from unseenprices.notes import check_plain_for
from unseenprices.reaches import least_price
from unseenprices.rules import all_things
from unseenprices.sets import minus, world_of
from unseenprices.shapes import Less
from unseenprices.worlds import extreme


def cost_in(rule, world, loss):
    """Return the cost of the loss in the world; nothing is checked."""
    return least_price(Less(rule, loss), world) - least_price(rule, world)


def loss_cost(rule, world, things):
    """Return the cost of the loss of the set in the world."""
    prices = world_of(rule.size, world)
    return cost_in(rule, prices, loss_of(rule, things))


def loss_worlds(rule, notes, things):
    """Return an agreeing world in which the loss costs least, and one in which it costs most; the notes are plain."""
    check_plain_for(rule, notes)
    loss = loss_of(rule, things)
    return extreme(notes, loss), extreme(notes, minus(all_things(rule), loss))


def loss_reach(rule, notes, things):
    """Return the least and the greatest cost of the loss in an agreeing world; the notes are plain."""
    least, most = loss_worlds(rule, notes, things)
    loss = tuple(things)
    return cost_in(rule, least, loss), cost_in(rule, most, loss)
