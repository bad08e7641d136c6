"""Columns of numbers modulo a prime: a set is free if no column is a sum of multiples of the others."""

from unseenprices.errors import BadEntry, BadNumber, NotFree
from unseenprices.rules import Rule, check_thing
from unseenprices.sets import is_below, is_count, set_of


class Columns(Rule):
    """Free are the sets none of whose columns is a sum of multiples of the others."""

    def __init__(self, prime, columns):
        if not is_count(prime) or prime not in (2, 3, 5):
            raise BadNumber("prime")
        for place, column in enumerate(columns):
            if not is_column(prime, column) or len(column) != len(columns[0]):
                raise BadEntry(place)
        super().__init__(len(columns))
        self.prime = prime
        self.columns = tuple([tuple(column) for column in columns])
        self._full = self.rank_of(self._all)

    def rank_found(self, things):
        rows = [self.columns[thing] for thing in things]
        return len(leading_rows(self.prime, rows, len(rows[0]) if rows else 0))


def is_column(prime, value):
    """Return whether the value, of whatever kind, is a tuple or list of integers from 0 to prime - 1."""
    return isinstance(value, (tuple, list)) and all([is_below(entry, prime) for entry in value])


def cleared(prime, row, leads):
    """Return the row less multiples of the leading rows, so that it is 0 at each of their leading places."""
    left = row
    for at, lead in leads:
        times = left[at]
        left = [(one - times * other) % prime for one, other in zip(left, lead)]
    return left


def leading_rows(prime, rows, length):
    """Return the rows that are left of the given ones, cleared by those before them, as pairs (place, row).

    The place is the first one below length at which the row is not 0; the row is multiplied so that it is 1
    there. A row that is 0 at all these places is left out.
    """
    leads = []
    for row in rows:
        left = cleared(prime, row, leads)
        places = [at for at in range(length) if left[at] != 0]
        if places:
            inverse = [times for times in range(1, prime) if times * left[places[0]] % prime == 1][0]
            leads.append((places[0], [inverse * entry % prime for entry in left]))
    return leads


def multiples(columns, things, thing):
    """Return the multiples of the columns of a free set that add up to the column of the thing, or None."""
    held = set_of(columns.size, things)
    if not columns.is_free(held):
        raise NotFree(held)
    goal = columns.columns[check_thing(columns, thing)]
    # Each row goes on with one more number for each thing of the set; they record which multiples it is made of.
    rows = [[*columns.columns[x], *[int(x == y) for y in held]] for x in held]
    leads = leading_rows(columns.prime, rows, len(goal))
    left = cleared(columns.prime, [*goal, *[0 for _ in held]], leads)
    if any([entry != 0 for entry in left[:len(goal)]]):
        return None
    return tuple([-entry % columns.prime for entry in left[len(goal):]])
