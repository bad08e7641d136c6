"""Stretches: a lower and an upper bound of the price of each thing."""

from unseenprices.errors import BadStretch
from unseenprices.sets import is_price


def is_stretch(value):
    """Return whether the value, of whatever kind, is a tuple of two prices that do not fall."""
    if not isinstance(value, tuple) or len(value) != 2:
        return False
    low, high = value
    return is_price(low) and is_price(high) and low <= high


def stretches_of(told):
    """Return the stretches as a tuple of pairs; raises BadStretch(thing)."""
    for thing, stretch in enumerate(told):
        if not is_stretch(stretch):
            raise BadStretch(thing)
    return tuple(told)
