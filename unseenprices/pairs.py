"""What to ask next in a world that is not told: the low pair, the high pair, the step; the notes are plain."""

from unseenprices.choosing import chosen
from unseenprices.dues import pressing
from unseenprices.notes import check_plain_for
from unseenprices.rules import all_things
from unseenprices.sets import minus


def low_pair(rule, notes):
    """Return the low pair: an exchange of the lot of the lows that may be out of order; None if a lot is sure."""
    check_plain_for(rule, notes)
    lot = chosen(rule, notes.lows)
    pairs = rule.exchanges(lot)
    for f in minus(all_things(rule), lot):
        fronts = [(notes.highs[e], e) for e, second in pairs if second == f]
        if fronts and max(fronts) > (notes.lows[f], f):
            return (max(fronts)[1], f)
    return None


def high_pair(rule, notes):
    """Return the high pair: an exchange of the lot of the highs that may be out of order; None if a lot is sure."""
    check_plain_for(rule, notes)
    lot = chosen(rule, notes.highs)
    pairs = rule.exchanges(lot)
    for e in lot[::-1]:
        backs = [(notes.lows[f], f) for first, f in pairs if first == e]
        if backs and min(backs) < (notes.highs[e], e):
            return (e, min(backs)[1])
    return None


def step(rule, notes):
    """Return the least pressing thing, or else the two things of the low pair, as a set; () if a lot is sure."""
    press = pressing(rule, notes)
    if press:
        return press[:1]
    pair = low_pair(rule, notes)
    return () if pair is None else tuple(sorted(pair))
