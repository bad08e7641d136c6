"""Lots with little regret, chosen without asking; the notes are plain."""

from unseenprices.notes import check_plain_for
from unseenprices.regrets import regret
from unseenprices.rules import all_things, basis


def middle_lot(rule, notes):
    """Return the lot that is taken in the order of the middles of the stretches."""
    check_plain_for(rule, notes)
    row = sorted([(notes.lows[thing] + notes.highs[thing], thing) for thing in all_things(rule)])
    return basis(rule, [thing for _, thing in row])


def calmest(rule, notes):
    """Return the least lot with the least regret; raises TooMany(number) for more than 10 things."""
    check_plain_for(rule, notes)
    return min([(regret(rule, notes, lot), lot) for lot in rule.lots()])[1]
