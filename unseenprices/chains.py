"""Comparisons alone: which of them show the lot of an order, and the fewest that do."""

from unseenprices.comparing import forward, pairs_of, reached_from, told_order
from unseenprices.connected import parts
from unseenprices.errors import NotTrue
from unseenprices.rules import basis


def lot_along(rule, order):
    """Return the lot of the order."""
    return basis(rule, told_order(rule.size, order))


def open_exchanges(rule, order, pairs):
    """Return the exchanges (e, f) of the lot of the order for which no row of the comparisons leads from e to f.

    Raises BadOrder(place), BadPair(place) and NotTrue(place).
    """
    held = told_order(rule.size, order)
    told = pairs_of(rule.size, pairs)
    for place, (one, other) in enumerate(pairs):
        if held.index(one) > held.index(other):
            raise NotTrue(place)
    later = [reached_from(told, thing) for thing in range(rule.size)]
    return [(e, f) for e, f in rule.exchanges(basis(rule, held)) if f not in later[e]]


def shown_along(rule, order, pairs):
    """Return whether the comparisons, which are true in the order, show its lot."""
    return not open_exchanges(rule, order, pairs)


def other_order(rule, order, pairs):
    """Return None if the comparisons show the lot of the order, otherwise an order that fits them with another lot."""
    left = open_exchanges(rule, order, pairs)
    if not left:
        return None
    e, f = left[0]
    # No row leads from e to f, so the comparison of f with e makes no ring.
    return forward(rule.size, [*pairs, (f, e)])


def fewest_along(rule, order):
    """Return the fewest comparisons that show the lot: of neighbours, along the order, in each part; ascending."""
    held = told_order(rule.size, order)
    rows = [[thing for thing in held if thing in part] for part in parts(rule)]
    return sorted([pair for row in rows for pair in zip(row, row[1:])])
