"""Nets: things are lines between points, and a set is free if it has no ring."""

from unseenprices.errors import BadNumber, BadPair
from unseenprices.rules import Rule, closed_by
from unseenprices.sets import is_below, is_count, set_of


class Net(Rule):
    """Free are the sets of lines without a ring."""

    def __init__(self, points, lines):
        if not is_count(points):
            raise BadNumber("points")
        for place, line in enumerate(lines):
            if not is_line(points, line):
                raise BadPair(place)
        super().__init__(len(lines))
        self.points = points
        self.lines = tuple([tuple(line) for line in lines])
        self._full = self.rank_of(self._all)

    def rank_found(self, things):
        return self.points - len(set(marks_of(self, things)))


def is_line(points, value):
    """Return whether the value, of whatever kind, is a tuple or list of two points."""
    if not isinstance(value, (tuple, list)) or len(value) != 2:
        return False
    return is_below(value[0], points) and is_below(value[1], points)


def marks_of(net, things):
    """Return for each point the least point of its piece of the lines, which are not checked."""
    marks = list(range(net.points))
    for thing in things:
        one, other = net.lines[thing]
        least = min(marks[one], marks[other])
        marked = (marks[one], marks[other])
        marks = [least if mark in marked else mark for mark in marks]
    return marks


def pieces(net, things):
    """Return the list of the pieces of the set of lines, in ascending order of their least points."""
    marks = marks_of(net, set_of(net.size, things))
    return [
        tuple([point for point in range(net.points) if marks[point] == least])
        for least in sorted(set(marks))
    ]


def ring(net, things):
    """Return the ring that the least possible thing makes with lesser ones, or None if the set is free."""
    held = set_of(net.size, things)
    for place, thing in enumerate(held):
        # The things before this place make no ring, so their number is their rank.
        if net.rank_of(held[:place + 1]) == place:
            return closed_by(net, held[:place], thing)
    return None
