"""Ways between the two points of a line of a net, and cuts that leave no way."""

from unseenprices.errors import IsDead
from unseenprices.rules import check_thing
from unseenprices.sets import set_of


def ends_of(net, line):
    """Return the two points of the line; raises BadThing(thing), and IsDead(line) if they are the same."""
    first, last = net.lines[check_thing(net, line)]
    if first == last:
        raise IsDead(line)
    return first, last


def other_end(net, line, point):
    """Return the point to which the line leads from one of its points."""
    one, other = net.lines[line]
    return other if point == one else one


def going_on(net, things, barred, point):
    """Return the pairs of a line and a point to which it leads from this point.

    `barred` has, for some of the lines, the point from which the line must not be gone along.
    """
    ready = [line for line in things if point in net.lines[line] and barred.get(line) != point]
    return [(line, other_end(net, line, point)) for line in ready]


def reached_points(net, things, barred, first):
    """Return a dict of all points that can be reached, each with the line and the point from which it was."""
    came = {first: None}
    row = [first]
    at = 0
    while at < len(row):
        here = row[at]
        at += 1
        for line, point in going_on(net, things, barred, here):
            if point not in came:
                came[point] = (line, here)
                row.append(point)
    return came


def shortest_way(came, last):
    """Return the list of the pairs (line, point from which it is gone along) that lead to a reached point."""
    found = []
    point = last
    while came[point] is not None:
        found.append(came[point])
        point = came[point][1]
    return found[::-1]


def lines_gone(net, things, first, last):
    """Return a dict of the lines of as many ways as possible, each with the point from which it is gone along."""
    gone = {}
    came = reached_points(net, things, gone, first)
    while last in came:
        for line, point in shortest_way(came, last):
            # A line that is gone along in both directions is not needed.
            if line in gone:
                del gone[line]
            else:
                gone[line] = point
        came = reached_points(net, things, gone, first)
    return gone


def ways(net, things, line):
    """Return as many ways of the set of lines as possible no two of which have a common line, ascending."""
    held = set_of(net.size, things)
    first, last = ends_of(net, line)
    gone = lines_gone(net, held, first, last)
    # From now on each line is gone along in its one direction alone.
    backs = {one: other_end(net, one, gone[one]) for one in gone}
    found = []
    came = reached_points(net, sorted(backs), backs, first)
    while last in came:
        way = [one for one, _ in shortest_way(came, last)]
        found.append(tuple(way))
        backs = {one: backs[one] for one in backs if one not in way}
        came = reached_points(net, sorted(backs), backs, first)
    return sorted(found)


def cut(net, things, line):
    """Return a set of as few lines of the set as possible that has a line of each of its ways."""
    held = set_of(net.size, things)
    first, last = ends_of(net, line)
    came = reached_points(net, held, lines_gone(net, held, first, last), first)
    # The lines that lead out of what can still be reached are all gone along.
    return tuple([one for one in held if (net.lines[one][0] in came) != (net.lines[one][1] in came)])
