"""Widths of grades, and the limits that a code stands for."""

UNIT_FACTOR = 111
STEP_GRADE = 3
SMALL_A = 97
CAPITAL_A = 65
LETTER_H = 7


def unit(nominal):
    """The least whole number, 1 or more, whose cube times 111 is the nominal size at least."""
    least = 1
    while UNIT_FACTOR * least * least * least < nominal:
        least += 1
    return least


def root_above(square):
    """The least whole number whose square is this number at least."""
    low = 0
    high = 1
    while high * high < square:
        high = high * 2
    while low < high:
        middle = (low + high) // 2
        if middle * middle < square:
            low = middle + 1
        else:
            high = middle
    return high


def width(grade, nominal):
    """The width of a grade, 0 to 21, of a nominal size."""
    base = unit(nominal)
    return root_above((base * base) << grade)


def step(k, nominal):
    """The step k, 0 to 18, of a nominal size."""
    if k == 0:
        return 0
    return width(k + STEP_GRADE, nominal)


def limits_above(away, breadth):
    """Limits that lie above 0, this far off it."""
    return (away, away + breadth)


def limits_below(away, breadth):
    """Limits that lie below 0, this far off it."""
    return (-away - breadth, -away)


def code_limits(letter, grade, nominal):
    """The limits lo and hi of a code, with the letter told by its byte."""
    breadth = width(grade, nominal)
    is_shaft = letter >= SMALL_A
    first = SMALL_A if is_shaft else CAPITAL_A
    number = letter - first - LETTER_H
    away = step(abs(number), nominal)
    # A hole's limits lie on the other side than a shaft's of the same letter.
    if is_shaft == (number > 0):
        return limits_above(away, breadth)
    return limits_below(away, breadth)
