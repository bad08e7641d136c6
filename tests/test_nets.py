"""Point 8: nets, their pieces and their rings."""

import random
import unittest

from tests.kinds import NETS
from tests.meaning import Meaning, all_sets, check_rule, is_ring, net_test, raised
from unseenprices.nets import Net, pieces, ring


def walked_pieces(points, lines, things):
    """Return the pieces, found by walking from each point along the lines."""
    found = []
    for start in range(points):
        reached, more = set(), {start}
        while more:
            reached |= more
            ends = {end for x in things for end in lines[x] if reached & {*lines[x]}}
            more = ends - reached
        if tuple(sorted(reached)) not in found:
            found.append(tuple(sorted(reached)))
    return found


def first_ring(lines, things):
    """Return the ring of the least thing that makes one with lesser things of the set, and how many it makes."""
    for place, thing in enumerate(things):
        found = [(*part, thing) for part in Meaning.parts(things[:place]) if is_ring(lines, (*part, thing))]
        if found:
            return found[0], len(found)
    return None, 0


class NetTest(unittest.TestCase):
    def test_meaning(self):
        for points, lines in NETS:
            check_rule(self, Net(points, lines), Meaning(len(lines), net_test(lines)))

    def test_rank_and_span_by_pieces(self):
        for points, lines in NETS:
            net = Net(points, lines)
            for things in all_sets(len(lines)):
                found = walked_pieces(points, lines, things)
                self.assertEqual(net.rank(things), points - len(found))
                inside = tuple(
                    x for x, line in enumerate(lines) if any({*line} <= {*piece} for piece in found)
                )
                self.assertEqual(net.span(things), inside)

    def test_example(self):
        net = Net(4, ((0, 1), (1, 2), (0, 2), (2, 3), (2, 3)))
        self.assertEqual([net.full, net.span((0, 1))], [3, (0, 1, 2)])
        self.assertEqual(net.exchanges((0, 1, 3)), [(0, 2), (1, 2), (3, 4)])
        self.assertEqual([pieces(net, (0, 3)), ring(net, (0, 1, 3, 4))], [[(0, 1), (2, 3)], (3, 4)])

    def test_attributes(self):
        lines = [[0, 1], (1, 1), [2, 0]]
        net = Net(3, lines)
        lines[0][1] = 0
        lines.append((1, 2))
        self.assertEqual([net.size, net.points, net.lines], [3, 3, ((0, 1), (1, 1), (2, 0))])
        self.assertEqual([net.rank((0,)), net.dead()], [1, (1,)])

    def test_no_points(self):
        net = Net(0, [])
        self.assertEqual([net.full, net.lots(), pieces(net, ()), ring(net, ())], [0, [()], [], None])
        self.assertEqual(raised(Net, 0, ((0, 0),)), ("BadPair", {"place": 0}))

    def test_errors(self):
        for wrong in (-1, None, "4", (2,)):
            self.assertEqual(raised(Net, wrong, ((0, 0),)), ("BadNumber", {"name": "points"}))
            self.assertEqual(raised(Net, wrong, (None,)), ("BadNumber", {"name": "points"}))
        for line in ((0, 2), (-1, 0), (0, -1), (0,), (0, 1, 1), (), None, 1, "01", (None, 0), (0, "1"), {0: 1, 1: 0}):
            self.assertEqual(raised(Net, 2, (line,)), ("BadPair", {"place": 0}))
            self.assertEqual(raised(Net, 2, [(0, 1), [1, 1], line, None]), ("BadPair", {"place": 2}))


class PiecesTest(unittest.TestCase):
    def test_all_sets(self):
        for points, lines in NETS:
            net = Net(points, lines)
            for things in all_sets(len(lines)):
                self.assertEqual(pieces(net, list(things)), walked_pieces(points, lines, things))

    def test_a_net_of_twelve_points(self):
        chance = random.Random(5)
        lines = [(chance.randrange(12), chance.randrange(12)) for _ in range(16)]
        net = Net(12, lines)
        for many in range(17):
            things = tuple(sorted(chance.sample(range(16), many)))
            self.assertEqual(pieces(net, things), walked_pieces(12, lines, things))

    def test_errors_and_new_lists(self):
        net = Net(2, ((0, 1),))
        self.assertEqual(raised(pieces, net, (1,)), ("BadSet", {"place": 0}))
        self.assertEqual(raised(pieces, net, [0, 0]), ("BadSet", {"place": 1}))
        pieces(net, ()).append(None)
        self.assertEqual(pieces(net, ()), [(0,), (1,)])


class RingTest(unittest.TestCase):
    def test_all_sets(self):
        for points, lines in NETS:
            net = Net(points, lines)
            for things in all_sets(len(lines)):
                found, many = first_ring(lines, things)
                self.assertLessEqual(many, 1)
                self.assertEqual(ring(net, list(things)), found)
                self.assertEqual(found is None, net.is_free(things))

    def test_which_ring(self):
        net = Net(3, ((0, 1), (1, 2), (0, 2), (0, 0), (0, 1)))
        self.assertEqual(ring(net, (0, 1, 2, 3, 4)), (0, 1, 2))
        self.assertEqual(ring(net, (0, 2, 3, 4)), (3,))
        self.assertEqual(ring(net, (0, 2, 4)), (0, 4))
        self.assertEqual(ring(net, (1, 2, 4)), (1, 2, 4))

    def test_errors(self):
        net = Net(2, ((0, 1), (0, 1)))
        self.assertEqual(raised(ring, net, (2,)), ("BadSet", {"place": 0}))
        self.assertEqual(raised(ring, net, [1, 0]), ("BadSet", {"place": 1}))
