"""The smaller rule in which all that is certain of the lot is settled."""

from unseenprices.judging import ins_and_outs
from unseenprices.notes import check_sizes
from unseenprices.shapes import Drawn, Less


def kernel(rule, notes):
    """Return the rule with all things that are in drawn in and all that are out left out, and these two sets."""
    check_sizes(rule, notes)
    ins, outs = ins_and_outs(rule, notes)
    return Less(Drawn(rule, ins), outs), ins, outs
