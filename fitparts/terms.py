"""What an assembly must keep, told so that the limits of some of its dimensions may be put in later.

Where an assembly goes together, a gap's least is that of the longest route whose uses are all different: a way round
is never longer than the chain past it. So rounds and such routes decide all.
"""

from fitparts.parts import LEAST, MOST, step_limits


class WantTerms:
    """A want's least and most, and the tallies of its routes there and back."""

    def __init__(self, least, most, there, back):
        self.least = least
        self.most = most
        self.there = there
        self.back = back


class Terms:
    """The tallies of an assembly's rounds, and the terms of each of its wants."""

    def __init__(self, rounds, wants):
        self.rounds = rounds
        self.wants = wants


def leg_slots(uses, targets):
    """For each use, the places in a tally of those steps of its part's chains that go a target along or against.

    A target is a part's name and a dimension's number: it's that dimension of every use of the part.
    """
    slots = []
    for use in uses:
        own = {}
        for k, target in enumerate(targets):
            if target[0] == use.part.name:
                own[target[1] + 1] = 2 * k
                own[-target[1] - 1] = 2 * k + 1
        slots.append(own)
    return slots


def tally(routes, uses, slots, size, end):
    """How often routes go each target along and against, and the ticks of all else: of like ones the greatest alone."""
    tallies = {}
    for route in routes:
        ticks = route.ticks
        counts = [0] * size
        for use, leg in route.legs:
            if leg in slots[use]:
                counts[slots[use][leg]] += 1
            else:
                ticks += step_limits(uses[use].part, leg)[end]
        key = tuple(counts)
        tallies[key] = max(ticks, tallies.get(key, ticks))
    return tallies


def terms_of(assembly, routes, targets):
    """The terms of an assembly whose targets' limits are put in later."""
    uses = assembly.uses
    slots = leg_slots(uses, targets)
    size = 2 * len(targets)
    wants = []
    for want, ways in zip(assembly.wants, routes.ways):
        there = tally(ways.there, uses, slots, size, LEAST)
        back = tally(ways.back, uses, slots, size, LEAST)
        wants.append(WantTerms(want.least, want.most, there, back))
    return Terms(tally(routes.rounds, uses, slots, size, MOST), wants)


def step_ends(spans, end):
    """What each target comes to along and against, with the least or the most of its span."""
    ends = []
    for span in spans:
        ends.append(span[end])
        ends.append(-span[1 - end])
    return ends


def longest_of(tallies, ends):
    """The length of the longest route of a tally; None if there is no route."""
    lengths = []
    for counts, ticks in tallies.items():
        lengths.append(ticks + sum([count * end for count, end in zip(counts, ends)]))
    return max(lengths, default=None)


def goes_together(terms, spans):
    """Whether no round is too long, with these spans (a least and a most size) of the targets."""
    greatest = longest_of(terms.rounds, step_ends(spans, MOST))
    return greatest is None or greatest <= 0


def is_kept(want, ends):
    """Whether a want of an assembly that goes together is kept."""
    least = longest_of(want.there, ends)
    back = longest_of(want.back, ends)
    if least is None or back is None:
        return False
    return want.least <= least and -back <= want.most


def first_beyond(terms, spans):
    """The number of the first want that isn't kept, and 1, of an assembly that goes together; 0 if all are."""
    ends = step_ends(spans, LEAST)
    for number, want in enumerate(terms.wants):
        if not is_kept(want, ends):
            return number + 1
    return 0


def first_unkept(terms, spans):
    """The number of the first want that isn't kept, and 1; 0 if all are."""
    if not goes_together(terms, spans):
        return 1 if len(terms.wants) > 0 else 0
    return first_beyond(terms, spans)


def all_hold(terms, spans):
    """Whether the assembly goes together and each want is kept."""
    return goes_together(terms, spans) and first_beyond(terms, spans) == 0
