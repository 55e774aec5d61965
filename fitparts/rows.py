"""Rows of relations from use to use: the closed ones that go round, and those from one use to others."""


class Step:
    """A relation gone along or against: its number and 1, below 0 if against; whence, whereto, and how far at least."""

    def __init__(self, mark, start, end, ticks):
        self.mark = mark
        self.start = start
        self.end = end
        self.ticks = ticks


def all_steps(relations):
    """Each way to go a relation, in the order in which rounds are compared."""
    steps = []
    for number, relation in enumerate(relations):
        steps.append(Step(number + 1, relation.first, relation.second, relation.ticks))
        if relation.touches:
            steps.append(Step(-number - 1, relation.second, relation.first, relation.ticks))
    return steps


def comes_to(row, use):
    """Whether one of the steps ends at this use."""
    return any([step.end.use == use for step in row])


def longer_rows(rows, steps):
    """Each row that isn't closed, with each step that may come behind it."""
    longer = []
    for row in rows:
        for step in steps:
            # A round's first row begins with its least relation. The same touch there and back is never too long.
            is_later = abs(step.mark) > abs(row[0].mark)
            if is_later and step.start.use == row[-1].end.use and not comes_to(row, step.end.use):
                longer.append(row + [step])
    return longer


def is_closed(row):
    return row[-1].end.use == row[0].start.use


def closed_rows(steps):
    """Every round that may be too long, each once, the first in order first.

    Rows of as many steps stay in order while they grow, as steps are taken in order.
    """
    closed = []
    rows = [[step] for step in steps]
    while len(rows) > 0:
        rows = longer_rows(rows, steps)
        closed.extend([row for row in rows if is_closed(row)])
        rows = [row for row in rows if not is_closed(row)]
    return closed


def last_use(row, use):
    """The use at which a row from this use on ends."""
    return row[-1].end.use if len(row) > 0 else use


def rows_from(steps, use):
    """Every row of steps from a use on that comes to no use twice and not back to it; the row of none too."""
    rows = [[]]
    k = 0
    while k < len(rows):
        row = rows[k]
        for step in steps:
            is_next = step.start.use == last_use(row, use)
            if is_next and step.end.use != use and not comes_to(row, step.end.use):
                rows.append(row + [step])
        k += 1
    return rows
