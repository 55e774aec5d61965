"""Parts: faces along a line, dimensions between them, and the limits that follow."""

LOOKS_LEFT = 0
LOOKS_RIGHT = 1

# Which of two limits is meant.
LEAST = 0
MOST = 1


class Face:
    """A face's name and the side to which it looks."""

    def __init__(self, name, side):
        self.name = name
        self.side = side


class Dimension:
    """The second face lies to the right of the first by the size; faces are told by their numbers."""

    def __init__(self, first, second, size):
        self.first = first
        self.second = second
        self.size = size


class Part:
    """A name, faces and dimensions; while it is read, not all its faces need be joined."""

    def __init__(self, name, faces, dimensions):
        self.name = name
        self.faces = faces
        self.dimensions = dimensions


def shortest(dimension):
    """The least good true size."""
    return dimension.size.nominal + dimension.size.lo


def longest(dimension):
    """The greatest good true size."""
    return dimension.size.nominal + dimension.size.hi


def ways_from(part, start):
    """For each face None if it isn't joined with the starting one, else the face before it on the way and the step.

    A step is a dimension's number and 1, below 0 if it's gone against; the starting face's own is 0.
    """
    ways = [None for face in part.faces]
    ways[start] = (start, 0)
    reached = [start]
    k = 0
    while k < len(reached):
        at = reached[k]
        for number, dimension in enumerate(part.dimensions):
            if dimension.first == at and ways[dimension.second] is None:
                ways[dimension.second] = (at, number + 1)
                reached.append(dimension.second)
            if dimension.second == at and ways[dimension.first] is None:
                ways[dimension.first] = (at, -number - 1)
                reached.append(dimension.first)
        k += 1
    return ways


def steps_to(ways, face):
    """The steps from the face at which the ways start to this one."""
    steps = []
    at = face
    while ways[at][1] != 0:
        steps.append(ways[at][1])
        at = ways[at][0]
    return list(reversed(steps))


def chain(part, f, g):
    """The steps from face f to face g of a whole part."""
    return steps_to(ways_from(part, f), g)


def chains_from(part, f):
    """The steps from face f to each face of a whole part."""
    ways = ways_from(part, f)
    return [steps_to(ways, g) for g in range(len(part.faces))]


def step_limits(part, step):
    """The least and the most that one step comes to."""
    dimension = part.dimensions[abs(step) - 1]
    if step > 0:
        return (shortest(dimension), longest(dimension))
    return (-longest(dimension), -shortest(dimension))


def limits(part, f, g):
    """The limits from face f to face g of a whole part."""
    ends = [step_limits(part, step) for step in chain(part, f, g)]
    return (sum([end[LEAST] for end in ends]), sum([end[MOST] for end in ends]))


def first_bad(part, sizes):
    """The number of the first true size that's not within its limits, and 1; 0 if all are."""
    for number, dimension in enumerate(part.dimensions):
        if not shortest(dimension) <= sizes[number] <= longest(dimension):
            return number + 1
    return 0
