"""The board: a sheet and perhaps an assembly, and the calls on them."""

from fitparts.assemblies import read_assembly
from fitparts.faults import Fault
from fitparts.fitting import answer_on_assembly
from fitparts.lines import find_name
from fitparts.parts import chain, first_bad, limits
from fitparts.pricing import answer_on_offers
from fitparts.refusals import FAULTY, NONE_THERE, NOT_AS_MANY, NO_ASSEMBLY, NO_SUCH, TOO_LONG
from fitparts.routes import all_routes
from fitparts.sheets import read_sheet, write_sheet

MOST_BYTES = 16384
FIRST_ON_OFFERS = 13


class Board:
    """The parts of the sheet, and the assembly with its routes, if there is one."""

    def __init__(self):
        self.parts = []
        self.assembly = None
        self.routes = None


class Call:
    """A call's number, its whole numbers, its lists, and where the next call begins."""

    def __init__(self, number, numbers, rows, end):
        self.number = number
        self.numbers = numbers
        self.rows = rows
        self.end = end


def call_sheet(board, numbers, rows):
    text = rows[0]
    if len(text) > MOST_BYTES:
        return [TOO_LONG]
    try:
        parts = read_sheet(text)
    except Fault as e:
        return [FAULTY, e.kind, e.place]
    board.parts = parts
    board.assembly = None
    board.routes = None
    return [len(parts)]


def call_text(board, numbers, rows):
    text = write_sheet(board.parts)
    return [len(text)] + text


def call_find(board, numbers, rows):
    number = find_name(board.parts, rows[0])
    if number < 0:
        return [NONE_THERE]
    part = board.parts[number]
    return [number, len(part.faces), len(part.dimensions)]


def has_faces(board, part, f, g):
    """Whether there is such a part with such faces."""
    return part < len(board.parts) and max(f, g) < len(board.parts[part].faces)


def call_between(board, numbers, rows):
    if not has_faces(board, numbers[0], numbers[1], numbers[2]):
        return [NO_SUCH]
    return [0] + list(limits(board.parts[numbers[0]], numbers[1], numbers[2]))


def call_chain(board, numbers, rows):
    if not has_faces(board, numbers[0], numbers[1], numbers[2]):
        return [NO_SUCH]
    steps = chain(board.parts[numbers[0]], numbers[1], numbers[2])
    return [len(steps)] + steps


def call_good(board, numbers, rows):
    if numbers[0] >= len(board.parts):
        return [NO_SUCH]
    part = board.parts[numbers[0]]
    if len(rows[0]) != len(part.dimensions):
        return [NOT_AS_MANY]
    return [first_bad(part, rows[0])]


def call_assembly(board, numbers, rows):
    text = rows[0]
    if len(text) > MOST_BYTES:
        return [TOO_LONG]
    try:
        assembly = read_assembly(text, board.parts)
    except Fault as e:
        return [FAULTY, e.kind, e.place]
    board.assembly = assembly
    board.routes = all_routes(assembly)
    return [len(assembly.uses)]


CALLS = {
    1: call_sheet,
    2: call_text,
    3: call_find,
    4: call_between,
    5: call_chain,
    6: call_good,
    7: call_assembly,
}


def answer_to(board, call):
    """The answer to one call."""
    if call.number in CALLS:
        return CALLS[call.number](board, call.numbers, call.rows)
    if board.assembly is None:
        return [NO_ASSEMBLY]
    if call.number < FIRST_ON_OFFERS:
        return answer_on_assembly(board, call.number, call.numbers, call.rows)
    return answer_on_offers(board, call.number, call.numbers, call.rows)


def read_call(calls, begin):
    """The call that begins there."""
    place = begin + 2
    numbers = calls[place:place + calls[begin + 1]]
    place += len(numbers)
    row_count = calls[place]
    place += 1
    rows = []
    while len(rows) < row_count:
        row_end = place + 1 + calls[place]
        rows.append(calls[place + 1:row_end])
        place = row_end
    return Call(calls[begin], numbers, rows, place)


def answers(calls):
    """The answers to calls on a new board, each with how many numbers it has before it."""
    board = Board()
    given = []
    place = 0
    while place < len(calls):
        call = read_call(calls, place)
        answer = answer_to(board, call)
        given.append(len(answer))
        given.extend(answer)
        place = call.end
    return given
