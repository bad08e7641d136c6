"""Bounds: the least and the greatest world that agree with stretches and comparisons."""

from unseenprices.comparing import forward, pairs_of, ring_in
from unseenprices.errors import NotGood
from unseenprices.stretches import stretches_of


def rise(one, other):
    """Return by how much a thing must at least be cheaper than another one so as to be before it."""
    return 1 if one > other else 0


def lifted(told, pairs):
    """Return the least prices that the told lows leave, a tuple; no row is a ring."""
    lows = [low for low, _ in told]
    for thing in forward(len(told), pairs):
        needed = [lows[one] + rise(one, other) for one, other in pairs if other == thing]
        lows[thing] = max([lows[thing], *needed])
    return tuple(lows)


def lowered(told, pairs):
    """Return the greatest prices that the told highs leave, a tuple; no row is a ring."""
    highs = [high for _, high in told]
    for thing in forward(len(told), pairs)[::-1]:
        needed = [highs[other] - rise(one, other) for one, other in pairs if one == thing]
        highs[thing] = min([highs[thing], *needed])
    return tuple(highs)


def row_up(told, pairs, lows, last):
    """Return a row whose rise lifts its last thing from the told low of its first one; lows are as in lifted."""
    row = (last,)
    while lows[row[0]] > told[row[0]][0]:
        ahead = [one for one, other in pairs if other == row[0] and lows[one] + rise(one, other) == lows[other]]
        row = (ahead[0], *row)
    return row


def bad_row(told, pairs):
    """Return a row that is a ring or clashes, or None if some world agrees; nothing is checked."""
    if forward(len(told), pairs) is None:
        return ring_in(len(told), pairs)
    lows = lifted(told, pairs)
    clashing = [thing for thing, (_, high) in enumerate(told) if lows[thing] > high]
    return row_up(told, pairs, lows, clashing[0]) if clashing else None


def bounds(stretches, pairs):
    """Return the tuple of the least and of the greatest agreeing world; raises NotGood(row) if no world agrees."""
    told = stretches_of(stretches)
    held = pairs_of(len(told), pairs)
    row = bad_row(told, held)
    if row is not None:
        raise NotGood(row)
    return lifted(told, held), lowered(told, held)
