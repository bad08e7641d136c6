"""Dividing a set into free sets, or finding what is too full for it."""

from unseenprices.errors import BadNumber
from unseenprices.rules import stays_free
from unseenprices.sets import both, is_count, minus, set_of


def check_many(k):
    """Return the number of free sets; raises BadNumber("k") if it is not an integer of at least 1."""
    if not is_count(k) or k == 0:
        raise BadNumber("k")
    return k


def place_of(sets, thing):
    """Return the place of the set that has the thing, or None."""
    for place, held in enumerate(sets):
        if thing in held:
            return place
    return None


def search(rule, sets, starts):
    """Look for the fewest moves that make room for a starting thing in the free sets; the things are in none.

    Returns a pair. First a dict with all things that were reached, each with the thing that would take its place
    in its set, None for a starting thing. Then a pair of a reached thing and the place of a set that it can join
    as it is, None if there is none.
    """
    came = {thing: None for thing in starts}
    row = list(starts)
    at = 0
    while at < len(row):
        thing = row[at]
        at += 1
        # Everything that the thing can reach is marked at once: then no way that is found has a shorter one in it,
        # and the sets stay free when all the moves of a way are made.
        for place, held in enumerate(sets):
            if thing in held:
                continue
            if rule.rank_of(both(held, (thing,))) > len(held):
                return came, (thing, place)
            for leaving in held:
                if leaving not in came and stays_free(rule, held, leaving, thing):
                    came[leaving] = thing
                    row.append(leaving)
    return came, None


def moved_along(sets, came, end):
    """Return the free sets after the moves that search has found."""
    left = list(sets)
    thing, place = end
    while thing is not None:
        before = place_of(left, thing)
        left[place] = both(left[place], (thing,))
        if before is not None:
            left[before] = minus(left[before], (thing,))
        thing, place = came[thing], before
    return left


def divided(rule, row, k):
    """Return free sets, at most k, no thing in two of them, with all things that are taken from the row.

    Each thing of the row is taken if it leaves the set of the taken things k-free. If k is at least the number of
    things of the row, there are just so many sets.
    """
    sets = [() for _ in range(min(k, len(row)))]
    for thing in row:
        came, end = search(rule, sets, (thing,))
        if end is not None:
            sets = moved_along(sets, came, end)
    return sets


def taken_by(sets):
    """Return the set of the things of all the sets, none of them in two."""
    return tuple(sorted([thing for held in sets for thing in held]))


def crowd(rule, things, sets):
    """Return a set Z of the things for which |things - Z| + k * rank(Z) is as many as the k sets have.

    The sets are what divided has made of the things. Z has what can be reached from the things that are left over.
    """
    came, _ = search(rule, sets, minus(things, taken_by(sets)))
    return tuple(sorted(came))


def parted(rule, things, k):
    """Return a division of the set into k free sets, or None if the set is not k-free."""
    held = set_of(rule.size, things)
    many = check_many(k)
    sets = divided(rule, held, many)
    if taken_by(sets) != held:
        return None
    return sets + [() for _ in range(many - len(sets))]


def too_full(rule, things, k):
    """Return a subset Z of the set with more than k * rank(Z) things, or None if the set is k-free."""
    held = set_of(rule.size, things)
    sets = divided(rule, held, check_many(k))
    if taken_by(sets) == held:
        return None
    return crowd(rule, held, sets)
