"""What the points say of a rule, worked out by going through everything. Slow, and kept apart from the program."""

from itertools import combinations, permutations, product

from unseenprices.errors import PricesError


def all_sets(size):
    """Return all sets of things, fewer things first."""
    return [things for many in range(size + 1) for things in combinations(range(size), many)]


def with_things(one, other):
    return tuple(sorted({*one, *other}))


def without_things(one, other):
    return tuple(thing for thing in one if thing not in other)


class Meaning:
    """A rule as points 1 and 2 word it, made from a test that tells of each set whether it is free."""

    def __init__(self, size, test):
        self.size = size
        self.all = tuple(range(size))
        self.sets = all_sets(size)
        self.free = {things for things in self.sets if test(things)}
        self.ranks = {
            things: max(len(part) for part in self.parts(things) if part in self.free) for things in self.sets
        }
        self.full = self.ranks[self.all]
        self.lots = sorted(things for things in self.free if len(things) == self.full)
        self.circuits = [
            things
            for things in self.sets
            if things not in self.free and all(part in self.free for part in self.parts(things) if part != things)
        ]

    @staticmethod
    def parts(things):
        return [part for many in range(len(things) + 1) for part in combinations(things, many)]

    def is_rule(self):
        """Return whether the three demands of point 1 hold."""
        if () not in self.free:
            return False
        if any(part not in self.free for things in self.free for part in self.parts(things)):
            return False
        return all(
            any(with_things(one, (b,)) in self.free for b in without_things(other, one))
            for one in self.free
            for other in self.free
            if len(other) > len(one)
        )

    def span(self, things):
        return tuple(x for x in self.all if self.ranks[with_things(things, (x,))] == self.ranks[things])

    def dead(self):
        return tuple(x for x in self.all if not any(x in lot for lot in self.lots))

    def firm(self):
        return tuple(x for x in self.all if all(x in lot for lot in self.lots))

    def exchanges(self, lot):
        outside = without_things(self.all, lot)
        swapped = {(e, f): with_things(without_things(lot, (e,)), (f,)) for e in lot for f in outside}
        return sorted(pair for pair, things in swapped.items() if things in self.lots)

    def circuit(self, lot, thing):
        """Return the one circuit in lot + thing, found among all circuits."""
        inside = with_things(lot, (thing,))
        found = [circuit for circuit in self.circuits if set(circuit) <= set(inside)]
        if len(found) != 1:
            raise AssertionError(f"{len(found)} circuits in {inside}")
        return found[0]

    def blow_of(self, lot, thing):
        return with_things((thing,), [f for e, f in self.exchanges(lot) if e == thing])


def raised(call, *given):
    """Return the name of the error of the package that the call raises, and its attributes; None if it raises none."""
    try:
        call(*given)
    except PricesError as error:
        return (error.__class__.__name__, vars(error))
    return None


def check_rule(case, rule, meaning):
    """Hold all that a rule answers against its meaning."""
    case.assertTrue(meaning.is_rule())
    case.assertEqual(rule.size, meaning.size)
    case.assertEqual(len(rule), meaning.size)
    case.assertEqual(rule.full, meaning.full)
    case.assertEqual(rule.dead(), meaning.dead())
    case.assertEqual(rule.firm(), meaning.firm())
    case.assertEqual(rule.lots(), meaning.lots)
    for things in meaning.sets:
        check_set(case, rule, meaning, things)
    for lot in meaning.lots:
        check_lot_answers(case, rule, meaning, lot)


def check_set(case, rule, meaning, things):
    case.assertIs(rule.is_free(things), things in meaning.free)
    case.assertIs(rule.is_lot(list(things)), things in meaning.lots)
    case.assertEqual(rule.rank(list(things)), meaning.ranks[things])
    case.assertEqual(rule.span(things), meaning.span(things))
    if things not in meaning.lots:
        told = ("NotALot", {"things": things})
        case.assertEqual(raised(rule.exchanges, list(things)), told)
        case.assertEqual(raised(rule.circuit, things, None), told)
        case.assertEqual(raised(rule.blow_of, things, None), told)


def check_lot_answers(case, rule, meaning, lot):
    case.assertEqual(rule.exchanges(list(lot)), meaning.exchanges(lot))
    for thing in meaning.all:
        wrong = ("BadThing", {"thing": thing})
        if thing in lot:
            case.assertEqual(rule.blow_of(lot, thing), meaning.blow_of(lot, thing))
            case.assertEqual(raised(rule.circuit, lot, thing), wrong)
        else:
            case.assertEqual(rule.circuit(lot, thing), meaning.circuit(lot, thing))
            case.assertEqual(raised(rule.blow_of, lot, thing), wrong)


def check_swaps(case, rule, pairs, lot, other):
    """Hold a list of exchanges of the lot against point 5."""
    case.assertEqual(pairs, sorted(pairs))
    case.assertLessEqual(set(pairs), set(rule.exchanges(lot)))
    case.assertEqual(sorted(e for e, _ in pairs), sorted(set(lot) - set(other)))
    case.assertEqual(sorted(f for _, f in pairs), sorted(set(other) - set(lot)))


def firsts_test(k):
    return lambda things: len(things) <= k


def teams_test(classes, places):
    def test(things):
        return all(sum(1 for x in things if classes[x] == at) <= most for at, most in enumerate(places))
    return test


def works_test(days):
    def test(things):
        return any(
            len(set(chosen)) == len(things) for chosen in product(*[range(1, days[x] + 1) for x in things])
        )
    return test


def is_circle(lines):
    """Return whether the lines, in this order and some direction each, join as many points in a circle."""
    for ways in product((0, 1), repeat=len(lines)):
        walk = [(line[way], line[1 - way]) for line, way in zip(lines, ways)]
        fronts = [front for front, _ in walk]
        backs = [back for _, back in walk]
        if backs == fronts[1:] + fronts[:1] and len(set(fronts)) == len(lines):
            return True
    return False


def is_ring(lines, things):
    """Return whether the set of lines is a ring as point 8 words it."""
    return len(things) > 0 and any(is_circle([lines[x] for x in row]) for row in permutations(things))


def net_test(lines):
    rings = [things for things in all_sets(len(lines)) if is_ring(lines, things)]
    return lambda things: not any(set(found) <= set(things) for found in rings)


def sums_of(prime, columns, length):
    """Return for each column that is a sum of multiples of these columns all the multiples that make it."""
    made = {}
    for times in product(range(prime), repeat=len(columns)):
        rows = zip(times, columns)
        total = [0] * length
        for many, column in rows:
            total = [(have + many * more) % prime for have, more in zip(total, column)]
        made.setdefault(tuple(total), []).append(times)
    return made


def columns_test(prime, columns):
    length = len(columns[0]) if columns else 0

    def test(things):
        return not any(
            tuple(columns[x]) in sums_of(prime, [columns[y] for y in things if y != x], length) for x in things
        )
    return test


def told_test(lots):
    return lambda things: any(set(things) <= set(lot) for lot in lots)


def less_meaning(meaning, gone):
    return Meaning(meaning.size, lambda things: things in meaning.free and not set(things) & set(gone))


def drawn_meaning(meaning, gone):
    def test(things):
        rank = meaning.ranks[with_things(things, gone)]
        return not set(things) & set(gone) and rank == meaning.ranks[tuple(gone)] + len(things)
    return Meaning(meaning.size, test)


def cut_meaning(meaning, k):
    return Meaning(meaning.size, lambda things: things in meaning.free and len(things) <= k)


def turned_of(size, things):
    """Return the turned set: all x' with x in the set."""
    return tuple(sorted(size - 1 - x for x in things))


def turned_meaning(meaning):
    def test(things):
        turned = set(turned_of(meaning.size, things))
        return any(not turned & set(lot) for lot in meaning.lots)
    return Meaning(meaning.size, test)


def shares_of(sizes, things):
    """Return what a set of a sum has of each rule, with the rule's own numbers."""
    starts = [sum(sizes[:place]) for place in range(len(sizes))]
    return [
        tuple(x - start for x in things if start <= x < start + size) for start, size in zip(starts, sizes)
    ]


def sum_meaning(*meanings):
    sizes = [meaning.size for meaning in meanings]

    def test(things):
        return all(share in meaning.free for meaning, share in zip(meanings, shares_of(sizes, things)))
    return Meaning(sum(sizes), test)


def divisible_sets(meaning, k):
    """Return all sets that can be divided into k free sets, built up one free set after the other."""
    found = {()}
    for _ in range(min(k, meaning.size)):
        found = {with_things(one, free) for one in found for free in meaning.free if not set(one) & set(free)}
    return found


def many_meaning(meaning, k):
    found = divisible_sets(meaning, k)
    return Meaning(meaning.size, lambda things: things in found)


def level_meaning(meaning, world):
    """Return what point 48 tells of: a rule that has the cheapest lots of the world as its lots."""
    least = min(sum(world[x] for x in lot) for lot in meaning.lots)
    return Meaning(meaning.size, told_test([lot for lot in meaning.lots if sum(world[x] for x in lot) == least]))
