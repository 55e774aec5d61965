"""Placements: where the faces of an assembly may lie, told by how far faces push one another to the right."""

from fitparts.parts import longest, shortest
from fitparts.rows import all_steps


class Net:
    """Each use's first face's number, how many faces there are, and the pushes.

    A push is two faces' numbers and how far the second lies to the right of the first at least.
    """

    def __init__(self, firsts, size, pushes):
        self.firsts = firsts
        self.size = size
        self.pushes = pushes


def good_spans(uses):
    """The least and the greatest good true size of each dimension, use by use."""
    spans = []
    for use in uses:
        spans.extend([(shortest(dimension), longest(dimension)) for dimension in use.part.dimensions])
    return spans


def true_spans(sizes):
    """True sizes as spans: each is its own least and greatest."""
    return [(size, size) for size in sizes]


def dimension_pushes(uses, firsts, spans):
    """How the faces of a use push one another, both ways, if each true size is within its span."""
    pushes = []
    number = 0
    for use, base in zip(uses, firsts):
        for dimension in use.part.dimensions:
            first = base + dimension.first
            second = base + dimension.second
            pushes.append((first, second, spans[number][0]))
            pushes.append((second, first, -spans[number][1]))
            number += 1
    return pushes


def net_of(assembly, spans):
    """The net of an assembly whose true sizes are within these spans."""
    firsts = []
    size = 0
    for use in assembly.uses:
        firsts.append(size)
        size += len(use.part.faces)
    pushes = dimension_pushes(assembly.uses, firsts, spans)
    for step in all_steps(assembly.relations):
        start = firsts[step.start.use] + step.start.face
        pushes.append((start, firsts[step.end.use] + step.end.face, step.ticks))
    return Net(firsts, size, pushes)


def push_once(places, pushes):
    """Moves each face that has a place, or gets one, as far as each push asks; whether one was moved."""
    moved = False
    for first, second, ticks in pushes:
        if places[first] is not None:
            needed = places[first] + ticks
            if places[second] is None or places[second] < needed:
                places[second] = needed
                moved = True
    return moved


def comes_to_rest(places, net):
    """Whether the faces come to rest; if they're moved once for each face, a round of pushes moves them for ever."""
    for turn in range(net.size):
        if not push_once(places, net.pushes):
            return True
    return False


def has_placement(net):
    return comes_to_rest([0] * net.size, net)


def least_gap(net, first, second):
    """The least gap from a face to a face, told by their numbers; None if there's none. The net has a placement."""
    places = [None] * net.size
    places[first] = 0
    comes_to_rest(places, net)
    return places[second]


def gap_bounds(net, first, second):
    """The least and the most of the gap from a face to a face, each None if there's none."""
    least = least_gap(net, first, second)
    back = least_gap(net, second, first)
    return (least, None if back is None else -back)
