"""Comparing plans: which of two things stands ahead, asked time and again until the answers show the lot."""

from unseenprices.comparing import told_order
from unseenprices.connected import parts


def fits(rule, part):
    """Return whether a part has the rank 0, 1, one less than its number of things, or this number."""
    return rule.rank_of(part) in (0, 1, len(part) - 1, len(part))


def compared_in(rule, part, order):
    """Return the comparisons that the plan makes in a part, each with the thing in front that stands ahead."""
    champion = part[0]
    found = []
    for thing in part[1:]:
        in_front = order.index(champion) < order.index(thing)
        ahead, later = (champion, thing) if in_front else (thing, champion)
        found.append((ahead, later))
        champion = ahead if rule.rank_of(part) == 1 else later
    return found


def comparing(rule, order):
    """Return the list of the comparisons of the plan in the order, or None if some part has another rank."""
    held = told_order(rule.size, order)
    found = []
    for part in parts(rule):
        if not fits(rule, part):
            return None
        found += compared_in(rule, part, held)
    return found
