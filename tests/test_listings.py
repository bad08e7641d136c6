"""Point 145: listings, letter by letter."""

import random
import unittest

from tests.asking import NET, NOTES
from tests.cases import CASES
from tests.kinds import WIDE_RULES
from tests.meaning import raised
from tests.refusals import refuses_things
from tests.test_desks import fresh, some_deed, whole_of
from tests.test_surelots import wide_notes
from unseenprices.counting import Firsts
from unseenprices.desks import Desk
from unseenprices.listings import line_of, listing
from unseenprices.notes import Notes
from unseenprices.rules import Rule
from unseenprices.sets import TOP


def told_line(desk, thing):
    """Return the line of the thing as point 145 words it."""
    low, high = desk.notes.lows[thing], desk.notes.highs[thing]
    bounds = str(low) if low == high else str(low) + " to " + str(high)
    return " " * (2 - len(str(thing))) + str(thing) + "  " + bounds + " " * (17 - len(bounds)) + "  " + \
        desk.verdict_of(thing)


def told_listing(desk):
    rows = [told_line(desk, x) for x in range(desk.rule.size)]
    rows.append("comparisons: " + (" ".join(str(x) + "<" + str(y) for x, y in desk.notes.pairs) or "-"))
    rows.append("lost: " + (" ".join(str(x) for x in desk.loss) or "-"))
    lot = desk.sure_now()
    if lot is None:
        rows.append("unsettled: " + str([desk.verdict_of(x) for x in range(desk.rule.size)].count("unsettled")))
    else:
        rows.append("sure lot: " + (" ".join(str(x) for x in lot) or "-"))
    return "\n".join(rows)


class ListingTest(unittest.TestCase):
    def test_every_small_rule(self):
        chance = random.Random(145)
        for case in CASES[::3]:
            desk = Desk(case.rule, case.notes)
            for _ in range(3 if case.known.size else 0):
                name, given = some_deed(chance, desk)
                raised(getattr(desk, name), *given)
                before = whole_of(desk)
                self.assertEqual(listing(desk), told_listing(desk))
                self.assertEqual(whole_of(desk), before)
                for x in case.meaning.all:
                    self.assertEqual(line_of(desk, x), told_line(desk, x))

    def test_letter_by_letter(self):
        desk = Desk(NET, NOTES)
        self.assertEqual(listing(desk), "\n".join((
            " 0  1 to 4             unsettled",
            " 1  2                  in",
            " 2  3 to 6             unsettled",
            " 3  0 to 5             unsettled",
            " 4  4                  unsettled",
            "comparisons: -",
            "lost: -",
            "unsettled: 4",
        )))
        desk.lose(0)
        desk.lose(4)
        desk.ask(3, 2)
        desk.compare(3, 2)
        self.assertEqual(listing(desk), "\n".join((
            " 0  1 to 4             lost",
            " 1  2                  in",
            " 2  3 to 6             in",
            " 3  2                  in",
            " 4  4                  lost",
            "comparisons: 3<2",
            "lost: 0 4",
            "sure lot: 1 2 3",
        )))

    def test_example(self):
        desk = Desk(Firsts(3, 2), Notes(((1, 4), (2, 2), (3, 6)), pairs=((0, 1),)))
        self.assertEqual(desk.lose(0), (0, 2))
        rows = listing(desk).split("\n")
        self.assertEqual(rows[0], " 0  1 to 2             lost")
        self.assertEqual(rows[3:], ["comparisons: 0<1", "lost: 0", "sure lot: 1 2"])

    def test_nothing_at_all(self):
        self.assertEqual(listing(Desk(Rule(0), Notes(()))), "comparisons: -\nlost: -\nsure lot: -")
        self.assertEqual(listing(Desk(Firsts(1, 0), Notes(((7, 7),)))), "\n".join((
            " 0  7                  out", "comparisons: -", "lost: -", "sure lot: -",
        )))

    def test_numbers_of_two_digits_and_long_bounds(self):
        notes = Notes(((0, TOP),) * 10 + ((999999, TOP), (TOP, TOP)), pairs=((10, 11), (2, 10)))
        desk = fresh(Firsts(12, 1), notes, (1, 11))
        rows = listing(desk).split("\n")
        self.assertEqual(rows[0], " 0  0 to 1000000       unsettled")
        self.assertEqual(rows[9], " 9  0 to 1000000       unsettled")
        self.assertEqual(rows[10], "10  999999 to 1000000  out")
        self.assertEqual(rows[11], "11  1000000            lost")
        self.assertEqual(rows[12:], ["comparisons: 2<10 10<11", "lost: 1 11", "unsettled: 9"])
        self.assertEqual(line_of(desk, 2), " 2  0 to 1000000       unsettled")

    def test_bounds_are_those_of_the_notes(self):
        # Not the told stretches, but what they and the comparisons leave; for a lost thing, too.
        desk = fresh(Firsts(2, 1), Notes(((0, 9), (3, 6)), pairs=((1, 0),)), (0,))
        self.assertEqual([line_of(desk, 0), line_of(desk, 1)], [
            " 0  4 to 9             lost", " 1  3 to 6             in",
        ])

    def test_errors(self):
        desk = Desk(NET, NOTES)
        refuses_things(self, 5, lambda thing: line_of(desk, thing))

    def test_sixteen_things(self):
        for place, rule in enumerate(WIDE_RULES):
            desk = fresh(rule, wide_notes(rule.size, place, 60), (2, 3))
            self.assertEqual(listing(desk), told_listing(desk))
            self.assertTrue(all(not row.endswith(" ") for row in listing(desk).split("\n")))
