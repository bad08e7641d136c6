"""Verdicts: whether a thing is in the lot of every agreeing world, of none, or of some."""

from unseenprices.choosing import in_span
from unseenprices.notes import check_sizes
from unseenprices.rules import all_things, check_thing


def is_in(rule, notes, thing):
    """Return whether the thing is in the lot of every agreeing world; nothing is checked."""
    return not in_span(rule, notes.may_precede(thing), thing)


def is_out(rule, notes, thing):
    """Return whether the thing is in the lot of no agreeing world; nothing is checked."""
    return in_span(rule, notes.must_precede(thing), thing)


def judged(rule, notes, thing):
    """Return the verdict of a thing; nothing is checked."""
    if is_in(rule, notes, thing):
        return "in"
    return "out" if is_out(rule, notes, thing) else "unsettled"


def ins_and_outs(rule, notes):
    """Return the set of the things that are in, and the set of those that are out; nothing is checked."""
    things = all_things(rule)
    ins = tuple([thing for thing in things if is_in(rule, notes, thing)])
    return ins, tuple([thing for thing in things if is_out(rule, notes, thing)])


def verdict(rule, notes, thing):
    """Return "in", "out" or "unsettled"."""
    check_sizes(rule, notes)
    return judged(rule, notes, check_thing(rule, thing))


def verdicts(rule, notes):
    """Return the list of the verdicts of all things."""
    check_sizes(rule, notes)
    return [judged(rule, notes, thing) for thing in all_things(rule)]


def world_with(rule, notes, thing):
    """Return an agreeing world whose lot has the thing, or None if the thing is out."""
    check_sizes(rule, notes)
    held = check_thing(rule, thing)
    return None if is_out(rule, notes, held) else notes.earliest(held)


def world_without(rule, notes, thing):
    """Return an agreeing world whose lot lacks the thing, or None if the thing is in."""
    check_sizes(rule, notes)
    held = check_thing(rule, thing)
    return None if is_in(rule, notes, held) else notes.latest(held)
