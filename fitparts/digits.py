"""Numbers and deviations: how they stand in texts, and how they are written there."""

from fitparts.faults import Fault

TICKS = 10000
GREATEST_LENGTH = 1073741824
MOST_DIGITS = 9
MOST_DECIMALS = 4
BLANK = 32
PLUS = 43
MINUS = 45
POINT = 46
ZERO = 48
NINE = 57


class Scan:
    """What was read from a place on: where it ends, whether it is whole there, and what it says then."""

    def __init__(self, end, whole, value):
        self.end = end
        self.whole = whole
        self.value = value


def codes(signs):
    """The bytes of a written text."""
    return [ord(sign) for sign in signs]


def byte_at(text, place):
    """The byte at a place, -1 behind the text's end: so that no look ahead needs a check of its own."""
    if place < len(text):
        return text[place]
    return -1


def is_digit(byte):
    return ZERO <= byte <= NINE


def check_length(ticks, place):
    """Fault 3 of a length that is too great: the same of a size's and of an assembly's text."""
    if abs(ticks) > GREATEST_LENGTH:
        raise Fault(3, place)


def digits_end(text, begin):
    """How far the digits ahead of a point go from begin on."""
    if byte_at(text, begin) == ZERO:
        return begin + 1
    end = begin
    while end < begin + MOST_DIGITS and is_digit(byte_at(text, end)):
        end += 1
    return end


def decimals_end(text, begin):
    """How far the digits behind a point go from begin on."""
    end = begin
    while end < begin + MOST_DECIMALS and is_digit(byte_at(text, end)):
        # Behind the last digit that may stand there no other one mends a 0.
        if end == begin + MOST_DECIMALS - 1 and text[end] == ZERO:
            return end
        end += 1
    return end


def number_ticks(digits):
    """The ticks that the bytes of a whole number say."""
    millimetres = 0
    behind = 0
    scale = 0
    for byte in digits:
        if byte == POINT:
            scale = TICKS
        elif scale == 0:
            millimetres = millimetres * 10 + byte - ZERO
        else:
            scale = scale // 10
            behind += (byte - ZERO) * scale
    return millimetres * TICKS + behind


def scan_number(text, begin):
    """The number from begin on; not whole, it ends at the first byte with which no number goes on."""
    end = digits_end(text, begin)
    if end == begin:
        return Scan(end, False, 0)
    if byte_at(text, end) == POINT:
        end = decimals_end(text, end + 1)
        if text[end - 1] == POINT or text[end - 1] == ZERO:
            return Scan(end, False, 0)
    return Scan(end, True, number_ticks(text[begin:end]))


def scan_deviation(text, begin):
    """The deviation from begin on; not whole, it ends at the first byte with which none goes on."""
    sign = byte_at(text, begin)
    if sign != PLUS and sign != MINUS:
        return Scan(begin, False, 0)
    number = scan_number(text, begin + 1)
    if sign == PLUS or not number.whole:
        return number
    # Of all texts -0 alone is a number behind a sign and still no deviation.
    return Scan(number.end, number.value > 0, -number.value)


def write_number(ticks):
    """The bytes of the number that says these ticks, 0 or more."""
    whole = codes(str(ticks // TICKS))
    behind = ticks % TICKS
    if behind == 0:
        return whole
    return whole + [POINT] + codes(str(behind).zfill(MOST_DECIMALS).rstrip("0"))


def write_deviation(ticks):
    """The bytes of the deviation that says these ticks."""
    if ticks < 0:
        return [MINUS] + write_number(-ticks)
    return [PLUS] + write_number(ticks)
