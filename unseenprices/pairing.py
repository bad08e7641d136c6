"""Picking as many pairs as possible without using anything twice."""


def find_partner(pairs, first, partners, tried):
    """Give `first` a partner behind it in a pair, moving others to new partners; return whether it worked."""
    for one, second in pairs:
        if one == first and second not in tried:
            tried.append(second)
            if second not in partners or find_partner(pairs, partners[second], partners, tried):
                partners[second] = first
                return True
    return False


def most_pairs(pairs):
    """Return as many of the pairs as possible, no two with the same front or the same back, ascending."""
    row = sorted(pairs)
    partners = {}
    for first in sorted(set([one for one, _ in row])):
        find_partner(row, first, partners, [])
    return sorted([(partners[second], second) for second in partners])
