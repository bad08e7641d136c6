"""Point 132: ways and cuts of a net."""

import random
import unittest
from itertools import combinations, permutations

from tests.asking import NET, WORLD
from tests.kinds import NETS
from tests.meaning import Meaning, raised
from tests.refusals import refuses_sets, refuses_things
from tests.test_standins import some_worlds
from unseenprices.depths import depth
from unseenprices.nets import Net
from unseenprices.ways import cut, ways
from unseenprices.worlds import before


def is_way(net, row, start, end):
    """Return whether the lines lead from one point to the other, in this order, and meet no point twice."""
    met = [start]
    for line in row:
        if met[-1] not in net.lines[line]:
            return False
        one, other = net.lines[line]
        met.append(other if met[-1] == one else one)
    return met[-1] == end and len({*met}) == len(met)


def all_ways(net, things, line):
    start, end = net.lines[line]
    return [
        row for many in range(1, len(things) + 1) for row in permutations(things, many) if is_way(net, row, start, end)
    ]


def most_ways(found):
    """Return the greatest number of the ways no two of which have a common line."""
    best = 0
    for place, row in enumerate(found):
        rest = [one for one in found[place + 1:] if not {*one} & {*row}]
        best = max(best, 1 + most_ways(rest))
    return best


def is_cut(found, things):
    return all({*row} & {*things} for row in found)


def some_nets():
    """Return small nets, those of the kinds and some with many lines between few points."""
    chance = random.Random(132)
    found = [Net(*row) for row in NETS if row[1]]
    for points, lines in ((2, 5), (3, 5), (4, 6), (5, 6), (4, 6), (3, 6)):
        found += [Net(points, [[chance.randrange(points), chance.randrange(points)] for _ in range(lines)])]
    return found


class WaysTest(unittest.TestCase):
    def check(self, net, things, line):
        """Hold ways and cut against all choices of ways and of lines."""
        told = all_ways(net, things, line)
        found = ways(net, list(things), line)
        self.assertIsInstance(found, list)
        self.assertEqual(found, sorted(found))
        self.assertLessEqual({*found}, {*told})
        self.assertEqual(len({x for row in found for x in row}), sum(len(row) for row in found))
        self.assertEqual(len(found), most_ways(told))
        least = cut(net, list(things), line)
        self.assertIsInstance(least, tuple)
        self.assertEqual(least, tuple(sorted({*least})))
        self.assertLessEqual({*least}, {*things})
        self.assertTrue(is_cut(told, least))
        self.assertEqual(len(least), len(found))
        if line in things:
            self.assertIn((line,), found)
            self.assertIn(line, least)

    def test_every_line_and_every_set(self):
        for net in some_nets():
            for line in range(net.size):
                if net.lines[line][0] != net.lines[line][1]:
                    whole = tuple(range(net.size))
                    for things in Meaning.parts(whole)[::1 if net.size < 6 else 3] + [whole]:
                        self.check(net, things, line)

    def test_no_smaller_cut(self):
        # As many ways as lines in the cut: so no smaller set can be a cut. Here it is tried.
        for net in some_nets()[-6:]:
            whole = tuple(range(net.size))
            for line in whole:
                if net.lines[line][0] != net.lines[line][1]:
                    told = all_ways(net, whole, line)
                    for things in combinations(whole, len(cut(net, whole, line)) - 1):
                        self.assertFalse(is_cut(told, things))

    def test_depths(self):
        for net in some_nets():
            for world in some_worlds(net.size, 2):
                for line in range(net.size):
                    if net.lines[line][0] != net.lines[line][1]:
                        ahead = before(world, line)
                        self.assertEqual(depth(net, world, line), len(ways(net, ahead, line)))
                        self.assertEqual(depth(net, world, line), len(cut(net, ahead, line)))

    def test_examples(self):
        self.assertEqual([ways(NET, (0, 1, 2, 3, 4), 0), ways(NET, (1, 2), 0)], [[(0,), (2, 1)], [(2, 1)]])
        self.assertEqual([ways(NET, (0, 1), 2), ways(NET, (), 2), cut(NET, (), 2)], [[(0, 1)], [], ()])
        self.assertEqual([ways(NET, (3, 4), 4), cut(NET, [3, 4], 4), cut(NET, (0, 1), 3)], [[(3,), (4,)], (3, 4), ()])
        self.assertEqual(ways(NET, before(WORLD, 2), 2), [(0, 1)])
        # A greedy way through the middle must be taken back.
        net = Net(4, ((0, 1), (1, 2), (2, 3), (0, 2), (1, 3), (0, 3)))
        self.assertEqual(ways(net, (0, 1, 2, 3, 4), 5), [(0, 4), (3, 2)])
        self.assertIn(cut(net, (0, 1, 2, 3, 4), 5), ((0, 3), (2, 4)))
        # The shortest way goes along the middle line, but the three ways go along it in the other direction.
        net = Net(8, (
            (0, 1), (1, 2), (2, 3), (0, 4), (4, 2), (0, 5), (5, 2), (1, 6), (6, 3), (1, 7), (7, 3), (0, 3),
        ))
        found = ways(net, tuple(range(11)), 11)
        self.assertEqual([len(found), len(cut(net, tuple(range(11)), 11)), sum(1 in row for row in found)], [3, 3, 1])
        self.assertTrue(all(is_way(net, row, 0, 3) for row in found))
        # Lines from a point to itself are in no way and in no cut.
        loops = Net(2, ((0, 0), (0, 1), (1, 1), (1, 0)))
        self.assertEqual([ways(loops, (0, 1, 2, 3), 3), cut(loops, (0, 1, 2, 3), 3)], [[(1,), (3,)], (1, 3)])
        # From the first point of the line to the second one.
        chain = Net(3, ((0, 1), (1, 2), (0, 2), (2, 0)))
        self.assertEqual([ways(chain, (0, 1), 2), ways(chain, (0, 1), 3)], [[(0, 1)], [(1, 0)]])

    def test_errors_in_order(self):
        loops = Net(2, ((0, 0), (0, 1)))
        for call in (ways, cut):
            refuses_sets(self, 5, lambda things: call(NET, things, 9))
            refuses_things(self, 5, lambda line: call(NET, (0, 1), line))
            self.assertEqual(raised(call, loops, (0, 1), 0), ("IsDead", {"thing": 0}))
            self.assertEqual(raised(call, loops, (0, 2), 0), ("BadSet", {"place": 1}))
        self.assertEqual(ways(loops, (0, 1), 1), [(1,)])

    def test_new_lists(self):
        things = [0, 1, 2]
        ways(NET, things, 0).append(None)
        cut(NET, things, 0)
        self.assertEqual([ways(NET, things, 0), things], [[(0,), (2, 1)], [0, 1, 2]])

    def test_twelve_points_and_sixteen_lines(self):
        chance = random.Random(16)
        for points in (3, 5, 8, 12):
            net = Net(points, [chance.sample(range(points), 2) for _ in range(16)])
            for line in range(16):
                for things in (range(16), [x for x in range(16) if x != line], range(0, 16, 2)):
                    found, least = ways(net, tuple(things), line), cut(net, tuple(things), line)
                    self.assertEqual(len(found), len(least))
                    self.assertEqual(len({x for row in found for x in row}), sum(len(row) for row in found))
                    self.assertTrue(all(is_way(net, row, *net.lines[line]) for row in found))
                    self.assertEqual(ways(net, sorted({*things} - {*least}), line), [])
