"""Sheets: how their parts are read from a text and written as one."""

from fitparts.digits import BLANK, codes
from fitparts.faults import Fault
from fitparts.lines import LEFT_SIGN, LINE_FEED, RIGHT_SIGN, check_new, find_named, read_line
from fitparts.parts import LOOKS_LEFT, LOOKS_RIGHT, Dimension, Face, Part, ways_from
from fitparts.sizes import read_size, write_size

MOST_PARTS = 16
MOST_FACES = 8

# Which lines may come behind a line; a sheet begins as behind an end.
FOLLOWERS = {
    "part": ("face",),
    "face": ("face", "dim", "end"),
    "dim": ("dim", "end"),
    "end": ("part",),
}


def read_part(line, parts):
    """The part that the line begins, with nothing in it yet."""
    check_new(parts, MOST_PARTS, line)
    return Part(line.fields[0].text, [], [])


def read_face(line, part):
    check_new(part.faces, MOST_FACES, line)
    side = LOOKS_LEFT if line.fields[1].text == [LEFT_SIGN] else LOOKS_RIGHT
    return Face(line.fields[0].text, side)


def read_dim_size(field):
    """The size in a dimension's line, with its faults as a sheet's."""
    try:
        return read_size(field.text)
    except Fault as e:
        raise Fault(e.kind + 1, field.place + e.place) from None


def read_dimension(line, part):
    size = read_dim_size(line.fields[2])
    first = find_named(part.faces, line.fields[0])
    second = find_named(part.faces, line.fields[1])
    if ways_from(part, first)[second] is not None:
        raise Fault(10, line.begin)
    return Dimension(first, second, size)


def check_whole(part, name_places):
    """Fault 11 at the first face that isn't joined with the part's first one."""
    ways = ways_from(part, 0)
    for face, place in enumerate(name_places):
        if ways[face] is None:
            raise Fault(11, place)


def read_sheet(text):
    """The parts of the sheet that a text says; raises the text's Fault if it has one."""
    parts = []
    part = None
    name_places = []
    last = "end"
    place = 0
    while place < len(text):
        line = read_line(text, place, FOLLOWERS[last])
        if line.word == "part":
            part = read_part(line, parts)
            name_places = []
        elif line.word == "face":
            part.faces.append(read_face(line, part))
            name_places.append(line.fields[0].place)
        elif line.word == "dim":
            part.dimensions.append(read_dimension(line, part))
        else:
            check_whole(part, name_places)
            parts.append(part)
        last = line.word
        place = line.end
    if last != "end":
        raise Fault(1, len(text))
    return parts


def write_line(fields):
    """The bytes of a line with these fields."""
    line = list(fields[0])
    for field in fields[1:]:
        line.append(BLANK)
        line.extend(field)
    line.append(LINE_FEED)
    return line


def write_part(part):
    """The lines of a part."""
    text = write_line([codes("part"), part.name])
    for face in part.faces:
        sign = LEFT_SIGN if face.side == LOOKS_LEFT else RIGHT_SIGN
        text.extend(write_line([codes("face"), face.name, [sign]]))
    for dimension in part.dimensions:
        first = part.faces[dimension.first].name
        second = part.faces[dimension.second].name
        text.extend(write_line([codes("dim"), first, second, write_size(dimension.size)]))
    text.extend(write_line([codes("end")]))
    return text


def write_sheet(parts):
    """The text of the sheet with these parts."""
    text = []
    for part in parts:
        text.extend(write_part(part))
    return text
