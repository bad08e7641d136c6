"""Point 9: columns and multiples."""

import random
import unittest

from tests.kinds import COLUMNS
from tests.meaning import Meaning, check_rule, columns_test, raised, sums_of
from unseenprices.columns import Columns, multiples


class ColumnsTest(unittest.TestCase):
    def test_meaning(self):
        for prime, columns in COLUMNS:
            check_rule(self, Columns(prime, columns), Meaning(len(columns), columns_test(prime, columns)))

    def test_attributes(self):
        columns = [[0, 1], (1, 1)]
        rule = Columns(2, columns)
        columns[0][1] = 0
        columns.append((1, 0))
        self.assertEqual([rule.size, rule.prime, rule.columns], [2, 2, ((0, 1), (1, 1))])
        self.assertEqual([rule.full, rule.dead()], [2, ()])

    def test_columns_of_length_0_and_of_zeros(self):
        self.assertEqual([Columns(3, ((), ())).dead(), Columns(3, ((), ())).full], [(0, 1), 0])
        self.assertEqual(Columns(5, ((0, 0), (0, 3), (0, 0))).dead(), (0, 2))
        self.assertEqual([Columns(2, ()).size, Columns(2, []).lots()], [0, [()]])

    def test_bad_primes(self):
        for wrong in (0, 1, 4, 6, 7, -2, -3, None, "2", (2,)):
            self.assertEqual(raised(Columns, wrong, (None,)), ("BadNumber", {"name": "prime"}))
            self.assertEqual(raised(Columns, wrong, ()), ("BadNumber", {"name": "prime"}))

    def test_bad_columns(self):
        for columns, place in (
            (((2,),), 0), (((-1,),), 0), (((0,), (None,)), 1), (((0,), ("1",)), 1), (((0, 0), (0,)), 1),
            (((0,), (0, 0)), 1), (((), (0,)), 1), (((0,), ()), 1), ((None,), 0), (((0,), "0"), 1), (((0,), 0), 1),
            (((0, 1), (1, 1), (1, 2), (0,)), 2), (((0, 1), (1, 1), (0,), (1, 2)), 2), (((0,), {0: 1}), 1),
        ):
            self.assertEqual(raised(Columns, 2, columns), ("BadEntry", {"place": place}))
            self.assertEqual(raised(Columns, 2, list(columns)), ("BadEntry", {"place": place}))
        self.assertEqual(raised(Columns, 5, ((4, 0), (4, 5))), ("BadEntry", {"place": 1}))


class MultiplesTest(unittest.TestCase):
    def test_all_sets(self):
        for prime, columns in COLUMNS:
            rule = Columns(prime, columns)
            meaning = Meaning(len(columns), columns_test(prime, columns))
            for things in meaning.sets:
                self.check_set(rule, meaning, things)

    def check_set(self, rule, meaning, things):
        if things not in meaning.free:
            self.assertEqual(raised(multiples, rule, list(things), None), ("NotFree", {"things": things}))
            return
        length = len(rule.columns[0]) if rule.columns else 0
        made = sums_of(rule.prime, [rule.columns[x] for x in things], length)
        for thing in meaning.all:
            found = made.get(rule.columns[thing], [None])
            self.assertEqual(len(found), 1)
            self.assertEqual(multiples(rule, list(things), thing), found[0])
        for wrong in (meaning.size, -1, None, "0"):
            self.assertEqual(raised(multiples, rule, things, wrong), ("BadThing", {"thing": wrong}))

    def test_a_thing_of_the_set(self):
        rule = Columns(5, ((1, 2, 0), (2, 2, 0), (0, 0, 3)))
        self.assertEqual([multiples(rule, (0, 1, 2), x) for x in range(3)], [(1, 0, 0), (0, 1, 0), (0, 0, 1)])

    def test_the_empty_set(self):
        rule = Columns(3, ((0, 0), (1, 0)))
        self.assertEqual([multiples(rule, (), 0), multiples(rule, [], 1)], [(), None])

    def test_columns_of_eight(self):
        chance = random.Random(6)
        for prime in (2, 3, 5):
            columns = [tuple(chance.randrange(prime) for _ in range(8)) for _ in range(16)]
            rule = Columns(prime, columns)
            taken = ()
            for thing in range(16):
                if rule.is_free((*taken, thing)):
                    taken = (*taken, thing)
            for thing in range(16):
                times = multiples(rule, taken, thing)
                total = [sum(many * columns[x][at] for many, x in zip(times, taken)) % prime for at in range(8)]
                self.assertEqual(tuple(total), columns[thing])
                self.assertTrue(all(0 <= many < prime for many in times))

    def test_errors_in_order(self):
        rule = Columns(2, ((0,), (1,)))
        self.assertEqual(raised(multiples, rule, (2,), 9), ("BadSet", {"place": 0}))
        self.assertEqual(raised(multiples, rule, [1, 1], 9), ("BadSet", {"place": 1}))
        self.assertEqual(raised(multiples, rule, [0, 1], 9), ("NotFree", {"things": (0, 1)}))
        self.assertEqual(raised(multiples, rule, [1], 9), ("BadThing", {"thing": 9}))
