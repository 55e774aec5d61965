"""Assemblies: uses of a sheet's parts, relations and wants, and the text that says them."""

from fitparts.digits import BLANK, byte_at, check_length, scan_deviation, scan_number
from fitparts.faults import Fault
from fitparts.lines import check_new, check_room, find_named, read_line
from fitparts.parts import LOOKS_LEFT, LOOKS_RIGHT

MOST_USES = 6
MOST_RELATIONS = 12
MOST_WANTS = 6

# Which lines may come behind a line; behind "" the text begins.
FOLLOWERS = {
    "": ("assembly",),
    "assembly": ("use",),
    "use": ("use", "touch", "clear", "want", "end"),
    "touch": ("touch", "clear", "want", "end"),
    "clear": ("touch", "clear", "want", "end"),
    "want": ("want", "end"),
    "end": (),
}


class Use:
    """A use's name and its part."""

    def __init__(self, name, part):
        self.name = name
        self.part = part


class Spot:
    """A face of a use, both told by their numbers."""

    def __init__(self, use, face):
        self.use = use
        self.face = face


class Relation:
    """Two spots that touch, or of which the second lies so many ticks at least to the right of the first."""

    def __init__(self, first, second, touches, ticks):
        self.first = first
        self.second = second
        self.touches = touches
        self.ticks = ticks


class Want:
    """Two spots, and the least and the most that the gap between them may have."""

    def __init__(self, first, second, least, most):
        self.first = first
        self.second = second
        self.least = least
        self.most = most


class Assembly:
    """A name, uses, relations and wants."""

    def __init__(self, name, uses, relations, wants):
        self.name = name
        self.uses = uses
        self.relations = relations
        self.wants = wants


def read_clearance(field):
    """The ticks of a clear."""
    number = scan_number(field.text, 0)
    if not number.whole or number.end < len(field.text):
        raise Fault(2, field.place)
    check_length(number.value, field.place)
    return number.value


def read_bounds(field):
    """The least and the most of a want."""
    least = scan_deviation(field.text, 0)
    if not least.whole or byte_at(field.text, least.end) != BLANK:
        raise Fault(2, field.place)
    begin = least.end + 1
    most = scan_deviation(field.text, begin)
    if not most.whole or most.end < len(field.text):
        raise Fault(2, field.place)
    check_length(least.value, field.place)
    check_length(most.value, field.place + begin)
    if least.value > most.value:
        raise Fault(4, field.place + begin)
    return (least.value, most.value)


def read_use(line, uses, parts):
    check_new(uses, MOST_USES, line)
    part = find_named(parts, line.fields[1])
    return Use(line.fields[0].text, parts[part])


def find_spots(line, uses):
    """The two spots that a line's four names tell."""
    spots = []
    for k in (0, 2):
        use = find_named(uses, line.fields[k])
        face = find_named(uses[use].part.faces, line.fields[k + 1])
        spots.append(Spot(use, face))
    return spots


def check_side(uses, spot, side, field):
    """Fault 11 of a face that doesn't look to the side to which it must."""
    if uses[spot.use].part.faces[spot.face].side != side:
        raise Fault(11, field.place)


def read_relation(line, uses, relations):
    touches = line.word == "touch"
    ticks = 0 if touches else read_clearance(line.fields[4])
    check_room(relations, MOST_RELATIONS, line)
    spots = find_spots(line, uses)
    if spots[0].use == spots[1].use:
        raise Fault(10, line.fields[2].place)
    check_side(uses, spots[0], LOOKS_RIGHT, line.fields[1])
    check_side(uses, spots[1], LOOKS_LEFT, line.fields[3])
    return Relation(spots[0], spots[1], touches, ticks)


def read_want(line, uses, wants):
    bounds = read_bounds(line.fields[4])
    check_room(wants, MOST_WANTS, line)
    spots = find_spots(line, uses)
    return Want(spots[0], spots[1], bounds[0], bounds[1])


def read_assembly(text, parts):
    """The assembly of these parts that a text says; raises the text's Fault if it has one."""
    assembly = Assembly([], [], [], [])
    last = ""
    place = 0
    while place < len(text):
        line = read_line(text, place, FOLLOWERS[last])
        if line.word == "assembly":
            assembly.name = line.fields[0].text
        elif line.word == "use":
            assembly.uses.append(read_use(line, assembly.uses, parts))
        elif line.word == "want":
            assembly.wants.append(read_want(line, assembly.uses, assembly.wants))
        elif line.word != "end":
            assembly.relations.append(read_relation(line, assembly.uses, assembly.relations))
        last = line.word
        place = line.end
    if last != "end":
        raise Fault(1, len(text))
    return assembly
