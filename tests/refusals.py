"""Values that do not fit, each with the place that the error must have, and checks that they are refused."""

from tests.meaning import raised
from unseenprices.sets import TOP

NO_INTEGERS = (None, "1", (1,), [1], {1: 1})
NO_PRICES = (-1, TOP + 1, -10 ** 30, 10 ** 30, *NO_INTEGERS)
NO_COUNTS = (-1, -10 ** 30, *NO_INTEGERS)
# Entries that are no stretch.
NO_STRETCHES = (
    None, 5, "01", [0, 1], {0: 1, 1: 2}, (), (0,), (0, 1, 2), (1, 0), (TOP, TOP - 1), (-1, 0), (-2, -1), (0, TOP + 1),
    (TOP + 1, TOP + 1), (None, 1), (0, None), ("0", 1), (0, "1"), ((0,), 1), ((0, 1), (0, 1)),
)


def no_things(size):
    """Return values that are not one of so many things."""
    return (size, size + 1, 10 ** 30, -1, -size - 1, *NO_INTEGERS)


def no_pairs(size):
    """Return entries that are no comparison of so many things, at least two."""
    return (
        None, 5, "01", [0, 1], {0: 1, 1: 2}, (), (0,), (0, 1, 1), (0, 0), (1, 1), (0, size), (size, 0), (-1, 0),
        (0, -1), (None, 1), (0, None), ("0", 1), (0, "1"), ((0,), 1), ((0, 1), (1, 0)),
    )


def no_sets(size):
    """Return what is no set of so many things, each with the place that BadSet has."""
    found = [((wrong,), 0) for wrong in no_things(size)]
    found += [((*range(size), wrong), size) for wrong in no_things(size)]
    if size > 0:
        found += [((0, 0), 1), ((size - 1, size - 1), 1), ((0, None, None), 1)]
    if size > 1:
        found += [((1, 0), 1), ((0, 1, 1), 2), ((0, 1, 0), 2), ((1, 0, None), 1)]
    return found


def no_worlds(size):
    """Return what is no world of so many things, each with the place that BadWorld has."""
    found = [((0,) * many, many) for many in range(size)] + [((TOP,) * (size + more), size) for more in (1, 2)]
    found += [((0,) * size + (None,), size)]
    for place in range(size):
        found += [((0,) * place + (wrong,) + (1,) * (size - place - 1), place) for wrong in NO_PRICES]
        found += [((0,) * place + (None,), place), ((0,) * place + (-1,) * size, place)]
    return found


def no_worlds_alone():
    """Return what is no world, however many things there are, each with the place that BadWorld has."""
    return [(row, place) for row, place in no_worlds(3) if len(row) == 3]


def no_orders(size):
    """Return what is no order of so many things, each with the place that BadOrder has."""
    found = [(tuple(range(many)), many) for many in range(size)]
    found += [((*range(size), wrong), size) for wrong in (0, None, size)]
    for place in range(size):
        rest = tuple(range(place + 1, size))
        found += [((*range(place), wrong, *rest), place) for wrong in (None, "0", -1, size, (0,))]
        found += [((*range(place), one, *rest), place) for one in range(place)]
    return found


def as_both(row):
    """Return a tuple as a tuple and as a list."""
    return (row, list(row))


def refuses(case, name, attribute, wrong, call):
    """Check that each of the wrong values, given with what the attribute must be, raises the error of that name."""
    for given, told in wrong:
        for row in as_both(given):
            case.assertEqual(raised(call, row), (name, {attribute: told}))


def refuses_sets(case, size, call):
    refuses(case, "BadSet", "place", no_sets(size), call)


def refuses_worlds(case, size, call):
    refuses(case, "BadWorld", "place", no_worlds(size), call)


def refuses_orders(case, size, call):
    refuses(case, "BadOrder", "place", no_orders(size), call)


def refuses_things(case, size, call):
    for wrong in no_things(size):
        case.assertEqual(raised(call, wrong), ("BadThing", {"thing": wrong}))
