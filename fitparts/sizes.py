"""Sizes and their texts: four forms, and the faults 1 to 5."""

from fitparts.digits import BLANK, GREATEST_LENGTH, MINUS, PLUS, ZERO, Scan, byte_at, check_length, codes
from fitparts.digits import is_digit, scan_deviation, scan_number, write_deviation, write_number
from fitparts.faults import Fault
from fitparts.grades import code_limits

GREATEST_NOMINAL = 2147483647
PLAIN = 0
EVEN = 1
UNEVEN = 2
CODED = 3
ONE = 49
SIX = 54


class Size:
    """A nominal size, its limits as deviations from it, and how they are written."""

    def __init__(self, nominal, lo, hi, form, letter, grade):
        self.nominal = nominal
        self.lo = lo
        self.hi = hi
        self.form = form
        self.letter = letter
        self.grade = grade


def is_letter(byte):
    return 97 <= byte <= 122 or 65 <= byte <= 90


def is_fit(nominal, lo, hi):
    """Whether these limits are fit for the nominal size."""
    in_range = -GREATEST_LENGTH <= lo and hi <= GREATEST_LENGTH
    return in_range and lo <= hi and nominal + lo >= 1


def check_end(text, scan):
    """Fault 1 if what was read last isn't whole or doesn't end the text."""
    if not scan.whole or scan.end < len(text):
        raise Fault(1, scan.end)


def check_nominal(nominal):
    if nominal < 1 or nominal > GREATEST_NOMINAL:
        raise Fault(2, 0)


def fit_size(size, place):
    """The size itself, if its limits are fit."""
    if not is_fit(size.nominal, size.lo, size.hi):
        raise Fault(5, place)
    return size


def scan_grade(text, begin):
    """The grade from begin on: 0 to 16."""
    first = byte_at(text, begin)
    if not is_digit(first):
        return Scan(begin, False, 0)
    second = byte_at(text, begin + 1)
    if first == ONE and ZERO <= second <= SIX:
        return Scan(begin + 2, True, 10 + second - ZERO)
    return Scan(begin + 1, True, first - ZERO)


def read_plain(nominal):
    """The size of a text that is a number alone."""
    check_nominal(nominal)
    return Size(nominal, 0, 0, PLAIN, 0, 0)


def read_even(nominal, text, begin):
    """The size of a text with +- at begin."""
    number_begin = begin + 2
    number = scan_number(text, number_begin)
    check_end(text, number)
    check_nominal(nominal)
    check_length(number.value, number_begin)
    return fit_size(Size(nominal, -number.value, number.value, EVEN, 0, 0), begin)


def read_uneven(nominal, text, begin):
    """The size of a text whose first deviation stands, or ought to stand, at begin."""
    upper = scan_deviation(text, begin)
    if not upper.whole or byte_at(text, upper.end) != BLANK:
        raise Fault(1, upper.end)
    lower_begin = upper.end + 1
    lower = scan_deviation(text, lower_begin)
    check_end(text, lower)
    check_nominal(nominal)
    check_length(upper.value, begin + 1)
    check_length(lower.value, lower_begin + 1)
    if lower.value > upper.value:
        raise Fault(4, lower_begin)
    return fit_size(Size(nominal, lower.value, upper.value, UNEVEN, 0, 0), begin)


def read_coded(nominal, text, begin):
    """The size of a text with a letter at begin."""
    grade = scan_grade(text, begin + 1)
    check_end(text, grade)
    check_nominal(nominal)
    letter = text[begin]
    limits = code_limits(letter, grade.value, nominal)
    return fit_size(Size(nominal, limits[0], limits[1], CODED, letter, grade.value), begin)


def read_size(text):
    """The size that a text says; raises the text's Fault if it has one."""
    number = scan_number(text, 0)
    if number.whole and number.end == len(text):
        return read_plain(number.value)
    if not number.whole or text[number.end] != BLANK:
        raise Fault(1, number.end)
    begin = number.end + 1
    if is_letter(byte_at(text, begin)):
        return read_coded(number.value, text, begin)
    if byte_at(text, begin) == PLUS and byte_at(text, begin + 1) == MINUS:
        return read_even(number.value, text, begin)
    return read_uneven(number.value, text, begin)


def write_size(size):
    """The size's text."""
    nominal = write_number(size.nominal)
    if size.form == EVEN:
        return nominal + [BLANK, PLUS, MINUS] + write_number(size.hi)
    if size.form == UNEVEN:
        return nominal + [BLANK] + write_deviation(size.hi) + [BLANK] + write_deviation(size.lo)
    if size.form == CODED:
        return nominal + [BLANK, size.letter] + codes(str(size.grade))
    return nominal
