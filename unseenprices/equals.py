"""Equal prices: what every and what some cheapest lot has, and lots that are safe, cheapest in every agreeing world."""

from unseenprices.choosing import first_or_none, in_span
from unseenprices.notes import check_plain_for, check_sizes
from unseenprices.rules import all_things, basis, check_lot, check_thing


def every_and_some(rule, world, thing):
    """Return whether every, and whether some cheapest lot of the world has the thing; nothing is checked."""
    others = [one for one in all_things(rule) if one != thing]
    cheaper = tuple([one for one in others if world[one] < world[thing]])
    not_dearer = tuple([one for one in others if world[one] <= world[thing]])
    return not in_span(rule, not_dearer, thing), not in_span(rule, cheaper, thing)


def four(rule, notes, thing):
    """Return the answers to the four questions whether the thing is in cheapest lots.

    In every agreeing world in every one, in some one; in some agreeing world in every one, in some one.
    """
    check_sizes(rule, notes)
    held = check_thing(rule, thing)
    return every_and_some(rule, notes.latest(held), held) + every_and_some(rule, notes.earliest(held), held)


def unsafe_exchanges(rule, notes, lot):
    """Return the list of the exchanges of the lot that make a lesser price in some agreeing world."""
    pairs = rule.exchanges(lot)
    return [(e, f) for e, f in pairs if f not in notes.later(e) and notes.highs[e] > notes.lows[f]]


def safe_lot(rule, notes):
    """Return a safe lot, or None if no lot is safe; the notes are plain."""
    check_plain_for(rule, notes)
    row = sorted([(notes.lows[thing], notes.highs[thing], thing) for thing in all_things(rule)])
    # If some lot is safe, so is the one that is taken in this order.
    lot = basis(rule, [thing for _, _, thing in row])
    return None if unsafe_exchanges(rule, notes, lot) else lot


def unsafe(rule, notes, lot):
    """Return None if the lot is safe, otherwise an exchange of it and an agreeing world in which this is cheaper."""
    check_sizes(rule, notes)
    pair = first_or_none(unsafe_exchanges(rule, notes, check_lot(rule, lot)))
    return None if pair is None else (pair, notes.latest(pair[0]))
