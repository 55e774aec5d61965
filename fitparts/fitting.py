"""The calls on an assembly as it is: whether it goes together, the gaps in it, and its wants."""

from fitparts.places import gap_bounds, good_spans, has_placement, net_of, true_spans
from fitparts.refusals import NONE_THERE, NOT_AS_MANY, NOT_GOOD, NO_SUCH
from fitparts.routes import first_too_long
from fitparts.terms import first_unkept, terms_of


def call_goes(board, numbers, rows):
    found = first_too_long(board.routes.rounds, board.assembly.uses)
    if len(found) == 0:
        return [0]
    return [1] + found


def call_with(board, numbers, rows):
    sizes = rows[0]
    spans = good_spans(board.assembly.uses)
    if len(sizes) != len(spans):
        return [NOT_AS_MANY]
    if not all([span[0] <= size <= span[1] for size, span in zip(sizes, spans)]):
        return [NOT_GOOD]
    return [1 if has_placement(net_of(board.assembly, true_spans(sizes))) else 0]


def is_spot(uses, use, face):
    """Whether there's such a face of such a use."""
    return use < len(uses) and face < len(uses[use].part.faces)


def has_spots(uses, numbers):
    return is_spot(uses, numbers[0], numbers[1]) and is_spot(uses, numbers[2], numbers[3])


def tell_bound(bound):
    return [0] if bound is None else [1, bound]


def tell_gap(net, numbers):
    """The answer of gap and gapof: the bounds between two faces that are there."""
    if not has_placement(net):
        return [NONE_THERE]
    bounds = gap_bounds(net, net.firsts[numbers[0]] + numbers[1], net.firsts[numbers[2]] + numbers[3])
    return [0] + tell_bound(bounds[0]) + tell_bound(bounds[1])


def call_gap(board, numbers, rows):
    uses = board.assembly.uses
    if not has_spots(uses, numbers):
        return [NO_SUCH]
    return tell_gap(net_of(board.assembly, good_spans(uses)), numbers)


def call_gapof(board, numbers, rows):
    uses = board.assembly.uses
    if not has_spots(uses, numbers):
        return [NO_SUCH]
    if len(rows[0]) != sum([len(use.part.dimensions) for use in uses]):
        return [NOT_AS_MANY]
    return tell_gap(net_of(board.assembly, true_spans(rows[0])), numbers)


def call_wants(board, numbers, rows):
    return [first_unkept(terms_of(board.assembly, board.routes, []), [])]


CALLS = {
    8: call_goes,
    9: call_with,
    10: call_gap,
    11: call_gapof,
    12: call_wants,
}


def answer_on_assembly(board, number, numbers, rows):
    """The answer to the call of that number; the board holds an assembly."""
    return CALLS[number](board, numbers, rows)
