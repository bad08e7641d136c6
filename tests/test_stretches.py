"""Point 31: stretches."""

import unittest

from tests.meaning import raised
from unseenprices.sets import TOP
from unseenprices.stretches import stretches_of

WRONG = (
    [0, 1], None, 5, "01", {0: 1, 1: 2}, (), (0,), (0, 1, 2), (2, 1), (1, 0), (-1, 3), (0, TOP + 1), (TOP + 1, TOP + 1),
    (-2, -1), (None, 1), (0, None), ("0", 1), (0, "1"), ((0,), 1), (TOP, 0), ((0, 1), (0, 1)),
)


class StretchesTest(unittest.TestCase):
    def test_that_fit(self):
        told = [(0, TOP), (0, 0), (TOP, TOP), (5, 5), (3, 9)]
        self.assertEqual(stretches_of(told), tuple(told))
        self.assertEqual(stretches_of(tuple(told)), tuple(told))
        self.assertEqual([stretches_of(()), stretches_of([])], [(), ()])
        for low in range(4):
            for high in range(4):
                found = ((low, high),) if low <= high else ("BadStretch", {"thing": 0})
                self.assertEqual(raised(stretches_of, ((low, high),)) or stretches_of(((low, high),)), found)

    def test_that_do_not_fit(self):
        for wrong in WRONG:
            self.assertEqual(raised(stretches_of, (wrong,)), ("BadStretch", {"thing": 0}))
            self.assertEqual(raised(stretches_of, [(0, 1), (2, 2), wrong, None]), ("BadStretch", {"thing": 2}))
            self.assertEqual(raised(stretches_of, ((1, 0), wrong)), ("BadStretch", {"thing": 0}))

    def test_lists(self):
        told = [(0, 1), (2, 3)]
        found = stretches_of(told)
        self.assertIsInstance(found, tuple)
        self.assertEqual(told, [(0, 1), (2, 3)])
        told[0] = (9, 9)
        self.assertEqual(found, ((0, 1), (2, 3)))
