"""Routes from face to face: the relations of a row, and the dimensions gone within the uses between them."""

from fitparts.parts import MOST, chains_from, step_limits
from fitparts.rows import all_steps, closed_rows, last_use, rows_from


class Route:
    """The relations' marks, their ticks together, and the dimensions on the way: each a use and a step of its chain."""

    def __init__(self, marks, ticks, legs):
        self.marks = marks
        self.ticks = ticks
        self.legs = legs


class Ways:
    """The routes from a want's first face to its second, and those back."""

    def __init__(self, there, back):
        self.there = there
        self.back = back


class Routes:
    """The rounds of an assembly in their order, and for each want its ways.

    Which there are hangs on the relations alone: they're sought once, however often they're measured.
    """

    def __init__(self, rounds, ways):
        self.rounds = rounds
        self.ways = ways


def chain_tables(uses):
    """For each use the chains from each face of its part to each."""
    tables = []
    for use in uses:
        tables.append([chains_from(use.part, face) for face in range(len(use.part.faces))])
    return tables


def route_along(row, first, second, tables):
    """The route from a spot to a spot by a row of relations."""
    legs = []
    come = first
    for step in row:
        legs.extend([(come.use, leg) for leg in tables[come.use][come.face][step.start.face]])
        come = step.end
    legs.extend([(come.use, leg) for leg in tables[come.use][come.face][second.face]])
    return Route([step.mark for step in row], sum([step.ticks for step in row]), legs)


def routes_between(first, second, rows, tables):
    """The routes from a spot to a spot by those of the rows that end at its use."""
    ending = [row for row in rows if last_use(row, first.use) == second.use]
    return [route_along(row, first, second, tables) for row in ending]


def all_routes(assembly):
    """The routes that decide whether an assembly goes together and whether its wants are kept."""
    steps = all_steps(assembly.relations)
    tables = chain_tables(assembly.uses)
    rounds = [route_along(row, row[-1].end, row[-1].end, tables) for row in closed_rows(steps)]
    rows = {}
    for want in assembly.wants:
        for use in (want.first.use, want.second.use):
            if use not in rows:
                rows[use] = rows_from(steps, use)
    ways = []
    for want in assembly.wants:
        there = routes_between(want.first, want.second, rows[want.first.use], tables)
        back = routes_between(want.second, want.first, rows[want.second.use], tables)
        ways.append(Ways(there, back))
    return Routes(rounds, ways)


def first_too_long(rounds, uses):
    """The greatest length and the marks of the first round whose length is above 0; none: an empty list."""
    for route in rounds:
        greatest = route.ticks + sum([step_limits(uses[use].part, leg)[MOST] for use, leg in route.legs])
        if greatest > 0:
            return [greatest] + route.marks
    return []
