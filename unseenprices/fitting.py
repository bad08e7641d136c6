"""Lots that are possible: the lot of some agreeing world."""

from unseenprices.bounds import bad_row, lifted
from unseenprices.choosing import first_or_none
from unseenprices.comparing import pairs_of
from unseenprices.notes import check_sizes, surely_before
from unseenprices.rules import check_lot


def pairs_with(rule, notes, lot):
    """Return the comparisons of the notes and the exchanges of the lot, which are in order in the worlds of the lot."""
    return pairs_of(notes.size, notes.pairs + tuple(rule.exchanges(lot)))


def world_for(rule, notes, lot):
    """Return the least agreeing world whose lot this is, or None if the lot is not possible."""
    check_sizes(rule, notes)
    pairs = pairs_with(rule, notes, check_lot(rule, lot))
    return lifted(notes.stretches, pairs) if bad_row(notes.stretches, pairs) is None else None


def hindered(rule, notes, lot):
    """Return None if the lot is possible, otherwise what hinders it.

    That is, for plain notes, the least exchange (e, f) of the lot for which f is surely before e; for other notes a row
    of comparisons and exchanges of the lot that is a ring or clashes.
    """
    check_sizes(rule, notes)
    held = check_lot(rule, lot)
    if notes.plain:
        return first_or_none([(e, f) for e, f in rule.exchanges(held) if surely_before(notes, f, e)])
    return bad_row(notes.stretches, pairs_with(rule, notes, held))
