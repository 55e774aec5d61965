"""The lines of a sheet's and an assembly's text, and the names in them."""

from fitparts.digits import BLANK, codes, is_digit
from fitparts.faults import Fault

LINE_FEED = 10
MOST_NAME_BYTES = 12
LEFT_SIGN = 60
RIGHT_SIGN = 62

# What stands behind each line's first word.
SHAPES = {
    "part": ("name",),
    "face": ("name", "side"),
    "dim": ("name", "name", "rest"),
    "assembly": ("name",),
    "use": ("name", "name"),
    "touch": ("name", "name", "name", "name"),
    "clear": ("name", "name", "name", "name", "rest"),
    "want": ("name", "name", "name", "name", "rest"),
    "end": (),
}


class Field:
    """A piece of a line, and its place in the whole text."""

    def __init__(self, place, text):
        self.place = place
        self.text = text


class Line:
    """A line: its first word, where it begins, where the next one does, and the fields behind the word."""

    def __init__(self, word, begin, end, fields):
        self.word = word
        self.begin = begin
        self.end = end
        self.fields = fields


def is_small_letter(byte):
    return 97 <= byte <= 122


def is_name(text):
    if len(text) == 0 or len(text) > MOST_NAME_BYTES or not is_small_letter(text[0]):
        return False
    return all([is_small_letter(byte) or is_digit(byte) for byte in text])


def find_name(things, name):
    """The number of the first thing of that name, -1 if there is none."""
    for number, thing in enumerate(things):
        if thing.name == name:
            return number
    return -1


def find_named(things, field):
    """The number of the thing that a field names; Fault 9 if there is none."""
    number = find_name(things, field.text)
    if number < 0:
        raise Fault(9, field.place)
    return number


def line_feed_from(text, begin):
    """The place of the line feed that ends the line; Fault 1 if the text ends within it."""
    place = begin
    while place < len(text):
        if text[place] == LINE_FEED:
            return place
        place += 1
    raise Fault(1, begin)


def cut_fields(text, begin, end, most):
    """The fields between blanks; the last of as many as may be keeps all its blanks."""
    fields = []
    start = begin
    for place in range(begin, end):
        if text[place] == BLANK and len(fields) < most - 1:
            fields.append(Field(start, text[start:place]))
            start = place + 1
    fields.append(Field(start, text[start:end]))
    return fields


def is_field(kind, text):
    if kind == "name":
        return is_name(text)
    if kind == "side":
        return text == [LEFT_SIGN] or text == [RIGHT_SIGN]
    return True


def has_shape(fields, word):
    """Whether the fields are this word and what must stand behind it."""
    shape = SHAPES[word]
    if len(fields) != len(shape) + 1 or fields[0].text != codes(word):
        return False
    return all([is_field(kind, field.text) for kind, field in zip(shape, fields[1:])])


def read_line(text, begin, words):
    """The line that begins there, if it is one with these words; else Fault 1."""
    feed = line_feed_from(text, begin)
    for word in words:
        fields = cut_fields(text, begin, feed, len(SHAPES[word]) + 1)
        if has_shape(fields, word):
            return Line(word, begin, feed + 1, fields[1:])
    raise Fault(1, begin)


def check_room(things, most, line):
    """Fault 8 of a line that adds a thing where there are as many as may be already."""
    if len(things) == most:
        raise Fault(8, line.begin)


def check_new(things, most, line):
    """Faults 7 and 8 of a line that adds a thing of the name behind its word."""
    if find_name(things, line.fields[0].text) >= 0:
        raise Fault(7, line.fields[0].place)
    check_room(things, most, line)
