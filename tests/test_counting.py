"""Points 6 and 7: Firsts, Teams, Works and the timetable."""

import unittest

from tests.kinds import FIRSTS, TEAMS, WORKS
from tests.meaning import Meaning, check_rule, firsts_test, raised, teams_test, works_test
from unseenprices.counting import Firsts, Teams, Works, timetable


class FirstsTest(unittest.TestCase):
    def test_meaning(self):
        for size, k in FIRSTS:
            check_rule(self, Firsts(size, k), Meaning(size, firsts_test(k)))

    def test_attributes(self):
        rule = Firsts(4, 9)
        self.assertEqual([rule.size, rule.number, rule.full, len(rule)], [4, 9, 4, 4])
        self.assertEqual(Firsts(3, 0).dead(), (0, 1, 2))
        self.assertEqual(Firsts(3, 3).firm(), (0, 1, 2))

    def test_errors(self):
        for wrong in (-1, None, "2", (1,)):
            self.assertEqual(raised(Firsts, wrong, 1), ("BadNumber", {"name": "size"}))
            self.assertEqual(raised(Firsts, 3, wrong), ("BadNumber", {"name": "k"}))
            self.assertEqual(raised(Firsts, wrong, wrong), ("BadNumber", {"name": "size"}))


class TeamsTest(unittest.TestCase):
    def test_meaning(self):
        for classes, places in TEAMS:
            check_rule(self, Teams(classes, places), Meaning(len(classes), teams_test(classes, places)))

    def test_rank_by_classes(self):
        rule = Teams([0, 1, 0, 1, 1], [1, 2])
        self.assertEqual([rule.rank((0, 2)), rule.rank((1, 3, 4)), rule.full], [1, 2, 3])

    def test_attributes(self):
        classes, places = [0, 1, 0], [1, 4]
        rule = Teams(classes, places)
        self.assertEqual([rule.size, rule.classes, rule.places], [3, (0, 1, 0), (1, 4)])
        classes[0], places[0] = 1, 0
        self.assertEqual([rule.classes, rule.places, rule.rank((0, 2))], [(0, 1, 0), (1, 4), 1])

    def test_a_class_without_places(self):
        self.assertEqual(Teams((0, 1, 0), (0, 1)).dead(), (0, 2))

    def test_errors(self):
        for classes, places, place in (
            ((1,), (2,), 0), ((0, 0, -1), (1,), 2), ((0, None), (1,), 1), ((0, "0"), (1,), 1), ((0, 2, 9), (1, 1), 1),
            ((0,), (), 0), ((0, 1), (1,), 1), ((0, 3), (-1, 1), 1), ((3, 0), (1, None), 0),
            ((0, 1), (1, -1), 1), ((0, 1), (None, -1), 0), ((), (2, 1, "3"), 2), ((1, 1), (0, 0, 0, -5), 3),
        ):
            told = ("BadEntry", {"place": place})
            self.assertEqual(raised(Teams, classes, places), told)
            self.assertEqual(raised(Teams, list(classes), list(places)), told)


class WorksTest(unittest.TestCase):
    def test_meaning(self):
        for days in WORKS:
            check_rule(self, Works(days), Meaning(len(days), works_test(days)))

    def test_rank_as_the_point_tells(self):
        for days in WORKS:
            rule = Works(days)
            for things in Meaning(len(days), works_test(days)).sets:
                found = [t + sum(1 for x in things if days[x] > t) for t in range(len(days) + 1)]
                self.assertEqual(rule.rank(things), min(found))

    def test_attribute(self):
        days = [3, 1, 0]
        rule = Works(days)
        days[2] = 5
        self.assertEqual([rule.size, rule.days, rule.dead()], [3, (3, 1, 0), (2,)])

    def test_errors(self):
        for days, place in (((-1,), 0), ((1, 2, -1), 2), ((1, None, -1), 1), ((1, "2"), 1), (((1,), 2), 0)):
            self.assertEqual(raised(Works, days), ("BadEntry", {"place": place}))
            self.assertEqual(raised(Works, list(days)), ("BadEntry", {"place": place}))


class TimetableTest(unittest.TestCase):
    def test_all_sets(self):
        for days in WORKS:
            rule, meaning = Works(days), Meaning(len(days), works_test(days))
            for things in meaning.sets:
                if things in meaning.free:
                    row = timetable(rule, list(things))
                    self.assertIsInstance(row, list)
                    self.assertEqual(sorted(row), list(things))
                    self.assertEqual([(days[x], x) for x in row], sorted((days[x], x) for x in row))
                    self.assertTrue(all(days[x] > place for place, x in enumerate(row)))
                else:
                    self.assertEqual(raised(timetable, rule, list(things)), ("NotFree", {"things": things}))

    def test_examples(self):
        self.assertEqual(timetable(Works((3, 1, 3, 2)), (0, 1, 2)), [1, 0, 2])
        self.assertEqual(timetable(Works((3, 1, 3, 2)), (0, 1, 3)), [1, 3, 0])
        self.assertEqual(timetable(Works(()), ()), [])

    def test_errors(self):
        works = Works((0, 1, 1))
        self.assertEqual(raised(timetable, works, (0, 3)), ("BadSet", {"place": 1}))
        self.assertEqual(raised(timetable, works, [1, 1]), ("BadSet", {"place": 1}))
        self.assertEqual(raised(timetable, works, [0]), ("NotFree", {"things": (0,)}))
        self.assertEqual(raised(timetable, works, [1, 2]), ("NotFree", {"things": (1, 2)}))

    def test_new_each_time(self):
        works = Works((2, 1))
        timetable(works, (0, 1)).append(None)
        self.assertEqual(timetable(works, (0, 1)), [1, 0])
