"""Going round: the closed rows of relations, and the first one that is too long."""

from fitparts.parts import limits_from


class Step:
    """A relation gone along or against: its number and 1, below 0 if against; whence, whereto, and how far at least."""

    def __init__(self, mark, start, end, ticks):
        self.mark = mark
        self.start = start
        self.end = end
        self.ticks = ticks


def all_steps(relations):
    """Each way to go a relation, in the order in which rounds are compared."""
    steps = []
    for number, relation in enumerate(relations):
        steps.append(Step(number + 1, relation.first, relation.second, relation.ticks))
        if relation.touches:
            steps.append(Step(-number - 1, relation.second, relation.first, relation.ticks))
    return steps


def comes_to(row, use):
    """Whether one of the steps ends at this use."""
    return any([step.end.use == use for step in row])


def longer_rows(rows, steps):
    """Each row that isn't closed, with each step that may come behind it."""
    longer = []
    for row in rows:
        for step in steps:
            # A round's first row begins with its least relation. The same touch there and back is never too long.
            is_later = abs(step.mark) > abs(row[0].mark)
            if is_later and step.start.use == row[-1].end.use and not comes_to(row, step.end.use):
                longer.append(row + [step])
    return longer


def is_closed(row):
    return row[-1].end.use == row[0].start.use


def all_rounds(relations):
    """Every round that may be too long, each once, the first in order first.

    Rows of as many steps stay in order while they grow, as steps are taken in order.
    """
    steps = all_steps(relations)
    rounds = []
    rows = [[step] for step in steps]
    while len(rows) > 0:
        rows = longer_rows(rows, steps)
        rounds.extend([row for row in rows if is_closed(row)])
        rows = [row for row in rows if not is_closed(row)]
    return rounds


def limit_tables(uses):
    """For each use the limits from each face of its part to each."""
    tables = []
    for use in uses:
        tables.append([limits_from(use.part, face) for face in range(len(use.part.faces))])
    return tables


def greatest_length(steps, tables):
    """A round's greatest length, with the limits that the tables tell."""
    length = 0
    come = steps[-1].end
    for step in steps:
        length += tables[come.use][come.face][step.start.face][1] + step.ticks
        come = step.end
    return length


def first_too_long(rounds, uses):
    """The greatest length and the marks of the first round whose length is above 0; none: an empty list."""
    tables = limit_tables(uses)
    for steps in rounds:
        length = greatest_length(steps, tables)
        if length > 0:
            return [length] + [step.mark for step in steps]
    return []
