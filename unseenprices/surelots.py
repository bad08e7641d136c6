"""Lots that are sure: the lot of every agreeing world."""

from unseenprices.choosing import chosen, first_or_none
from unseenprices.notes import check_sizes, surely_before
from unseenprices.rules import check_lot


def doubtful(rule, notes, lot):
    """Return the list of the exchanges (e, f) of the lot for which e is not surely before f."""
    return [(e, f) for e, f in rule.exchanges(lot) if not surely_before(notes, e, f)]


def sure_lot(rule, notes):
    """Return the lot that is sure, or None if there is none."""
    check_sizes(rule, notes)
    # No other lot than that of the lows can be sure.
    lot = chosen(rule, notes.lows)
    return None if doubtful(rule, notes, lot) else lot


def doubt(rule, notes, lot):
    """Return None if the lot is sure, otherwise an exchange of it and an agreeing world in which it is another lot."""
    check_sizes(rule, notes)
    pair = first_or_none(doubtful(rule, notes, check_lot(rule, lot)))
    return None if pair is None else (pair, notes.latest(pair[0]))
