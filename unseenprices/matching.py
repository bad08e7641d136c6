"""Pairs of things with fronts and backs: many pairs that share no thing, and sets that meet all pairs."""

from unseenprices.errors import BadPair
from unseenprices.pairing import most_pairs
from unseenprices.sets import is_count, subsets


def is_pair(value):
    """Return whether the value, of whatever kind, is a tuple of two different integers of at least 0."""
    if not isinstance(value, tuple) or len(value) != 2:
        return False
    one, other = value
    return is_count(one) and is_count(other) and one != other


def checked_pairs(pairs):
    """Return the list of the different pairs, ascending; raises BadPair(place)."""
    fronts, backs = [], []
    for place, pair in enumerate(pairs):
        if not is_pair(pair) or pair[0] in backs or pair[1] in fronts:
            raise BadPair(place)
        fronts.append(pair[0])
        backs.append(pair[1])
    return sorted(set(list(zip(fronts, backs))))


def greatest_row(pairs):
    """Return a list of as many of the pairs as possible, no two of which share a thing."""
    return most_pairs(checked_pairs(pairs))


def least_cover(pairs):
    """Return a set with the fewest things that has a thing of each pair."""
    told = checked_pairs(pairs)
    row = most_pairs(told)
    partners = {second: first for first, second in row}
    matched = [first for first, _ in row]
    # What can be reached from the fronts without a partner, there along any pair and back along a pair of the row.
    reached = sorted(set([first for first, _ in told if first not in matched]))
    backs = []
    at = 0
    while at < len(reached):
        # A back without a partner cannot be reached: the row would not be a greatest one.
        coming = [second for first, second in told if first == reached[at] and second not in backs]
        backs = backs + coming
        reached = reached + [partners[second] for second in coming]
        at += 1
    return tuple(sorted([first for first in matched if first not in reached] + backs))


def lean_covers(pairs):
    """Return the list of all sets that have a thing of each pair and can lack none of their things, ascending."""
    told = checked_pairs(pairs)
    fronts = sorted(set([first for first, _ in told]))
    backs = sorted(set([second for _, second in told]))
    # A cover is told by its things on one side; the side with fewer things has fewer subsets.
    if len(backs) < len(fronts):
        return covers_from([(second, first) for first, second in told], backs)
    return covers_from(told, fronts)


def covers_from(pairs, fronts):
    """Return the lean covers, ascending; fronts is the set of the things that stand in front in the pairs."""
    found = []
    for kept in subsets(fronts):
        needed = sorted(set([second for first, second in pairs if first not in kept]))
        # Only kept things can have a partner that is not needed, and they are in vain if they have none.
        used = sorted(set([first for first, second in pairs if second not in needed]))
        if len(used) == len(kept):
            found.append(tuple(sorted([*kept, *needed])))
    return sorted(found)
