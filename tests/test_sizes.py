"""A size's text, as a sheet shows it: its forms, its faults, and how it is written."""

import itertools
import re
import unittest

from tests.helper import Dice, ask, between, joined, last, sheet, sheet_text_answer, text

BEGIN = joined(["part p", "face a <", "face b >"]) + "dim a b "


def with_size(size):
    return BEGIN + size + "\nend\n"


def fault(size):
    """The fault of the text as a size's: its kind and place; None without one."""
    given = last(sheet(with_size(size)))
    return None if given == [1] else (given[1] - 1, given[2] - len(BEGIN))


def said(size):
    """The least and greatest true size that the text says."""
    given = ask(sheet(with_size(size)), text(), between(0, 0, 1))
    assert given[0] == [1] and given[1] == sheet_text_answer(with_size(size)), (size, given)
    return tuple(given[2][1:])


class Forms(unittest.TestCase):

    def test_plain(self):
        self.assertEqual(said("10"), (100000, 100000))
        self.assertEqual(said("0.0001"), (1, 1))
        self.assertEqual(said("2.501"), (25010, 25010))
        self.assertEqual(said("214748.3647"), (2147483647, 2147483647))

    def test_even(self):
        self.assertEqual(said("10 +-0.1"), (99000, 101000))
        self.assertEqual(said("10 +-0"), (100000, 100000))
        self.assertEqual(said("10 +-9.9999"), (1, 199999))
        self.assertEqual(said("200000 +-107374.1824"), (2000000000 - 2 ** 30, 2000000000 + 2 ** 30))

    def test_uneven(self):
        self.assertEqual(said("10 +0.2 -0.1"), (99000, 102000))
        self.assertEqual(said("10 +0 -0.5"), (95000, 100000))
        self.assertEqual(said("10 +0.5 +0"), (100000, 105000))
        self.assertEqual(said("10 -0.1 -0.5"), (95000, 99000))
        self.assertEqual(said("10 +0.5 +0.5"), (105000, 105000))
        self.assertEqual(said("10 +107374.1824 -9.9999"), (1, 100000 + 2 ** 30))
        self.assertEqual(said("200000 -107374.1824 -107374.1824"), (2000000000 - 2 ** 30,) * 2)

    def test_coded(self):
        # The unit of 100,000 is 10: 111 * 729 is 80,919, 111 * 1000 is 111,000.
        self.assertEqual(said("10 h0"), (99990, 100000))
        self.assertEqual(said("10 H0"), (100000, 100010))
        self.assertEqual(said("10 h16"), (100000 - 2560, 100000))
        self.assertEqual(said("10 H2"), (100000, 100020))
        self.assertEqual(said("10 g4"), (100000 - 40 - 40, 100000 - 40))
        self.assertEqual(said("10 i4"), (100000 + 40, 100000 + 40 + 40))
        self.assertEqual(said("10 G4"), (100000 + 40, 100000 + 40 + 40))
        self.assertEqual(said("10 I4"), (100000 - 40 - 40, 100000 - 40))
        # 2 to the 9th is 512, 10 * 10 * 512 is 51,200, and 227 * 227 is 51,529, 226 * 226 is 51,076.
        self.assertEqual(said("10 h9"), (100000 - 227, 100000))


class Codes(unittest.TestCase):

    def limits(self, nominal, letter, grade):
        unit = next(u for u in range(1, 1000) if 111 * u ** 3 >= nominal)

        def width(g):
            t = int((unit * unit * 2 ** g) ** 0.5) - 2
            while t * t < unit * unit * 2 ** g:
                t += 1
            return t

        m = ord(letter.lower()) - 96 - 8
        away = 0 if m == 0 else width(abs(m) + 3)
        if letter.islower() == (m > 0):
            return nominal + away, nominal + away + width(grade)
        return nominal - away - width(grade), nominal - away

    def text_of(self, nominal):
        return f"{nominal // 10000}.{nominal % 10000:04}".rstrip("0").rstrip(".")

    def test_every_letter_and_grade(self):
        letters = [chr(65 + k) for k in range(26)] + [chr(97 + k) for k in range(26)]
        for letter in letters:
            for grade in range(17):
                nominal = 3000000 + 1234 * grade
                size = f"{self.text_of(nominal)} {letter}{grade}"
                self.assertEqual(said(size), self.limits(nominal, letter, grade), size)

    def test_edges_of_the_unit(self):
        for u in (3, 4, 9, 10, 100, 268):
            for nominal in (111 * u ** 3 - 1, 111 * u ** 3, 111 * u ** 3 + 1):
                for code in ("h5", "H5", "j3", "F7"):
                    size = f"{self.text_of(nominal)} {code}"
                    self.assertEqual(said(size), self.limits(nominal, code[0], int(code[1])), size)

    def test_greatest_nominal(self):
        self.assertEqual(said("214748.3647 Z16"), self.limits(2147483647, "Z", 16))
        self.assertEqual(said("214748.3647 z16"), self.limits(2147483647, "z", 16))

    def test_smallest_nominal(self):
        self.assertEqual(said("0.0001 H0"), (1, 2))
        self.assertEqual(fault("0.0001 h0"), (5, 7))
        self.assertEqual(said("0.0002 h0"), (1, 2))


class Shape(unittest.TestCase):

    def check(self, expected):
        for size, place in expected.items():
            self.assertEqual(fault(size), None if place is None else (1, place), size)

    def test_numbers(self):
        self.check({
            "": 0, "x": 0, ".5": 0, "-5": 0, " 5": 0, "01": 1, "00": 1, "5x": 1, "5.": 2, "5.x": 2, "5. ": 2,
            "2.50": 4, "2.500": 5, "2.5000": 5, "25.0000": 6, "25.00001": 6, "2.50 +-1": 4, "2.12345": 6,
            "2.1234": None, "2.1": None, "2.12": None, "2.123": None, "2.0001": None, "2..": 2, "1.1.1": 3,
            "1234567890": 9, "1234567890.1": 9, "5\xff": 1, "5\0": 1, "5,": 1, "5\r": 1,
            "/": 0, ":": 0, "5/": 1, "5:": 1, "5./": 2, "5.:": 2, "99.9999": None,
        })

    def test_behind_the_first_number(self):
        self.check({
            "10 ": 3, "10  ": 3, "10 5": 3, "10 +": 4, "10 -": 4, "10 ++": 4, "10 -+": 4, "10 +-": 5, "10 +-x": 5,
            "10 +--1": 5, "10 +-01": 6, "10 +-1.": 7, "10 +-1.0": 8, "10 +-1.0000": 10, "10 +-1 ": 6, "10 +-1 +1": 6,
            "10 +-1234567890": 14, "10\t+-1": 2, "10 .5": 3, "10 (": 3,
        })

    def test_deviations(self):
        self.check({
            "10 +1": 5, "10 +1 ": 6, "10 +1  ": 6, "10 +1 1": 6, "10 +1 +": 7, "10 +1 -x": 7, "10 +1x": 5,
            "10 +1 -1 ": 8, "10 +1 -1x": 8, "10 -0": 5, "10 -0 -1": 5, "10 -0x": 5, "10 -0.": 6, "10 -0.5": 7,
            "10 -0.50": 8, "10 -0.5 -0.50": 13, "10 +1 -0": 8, "10 +1 -0.": 9, "10 +1 -0 ": 8, "10 -01": 5, "10 +01": 5,
            "10 -00": 5, "10 +1 +-1": 7, "10 +0.5000 +0": 9, "10 +0 +0": None, "10 +0 -0.5": None,
            "10 +1 -1234567890": 16, "10 +1.0 -1": 7, "10 +1 -1.0000": 12,
        })

    def test_codes(self):
        self.check({
            "10 h": 4, "10 h ": 4, "10 hh": 4, "10 h01": 5, "10 h00": 5, "10 h17": 5, "10 h19": 5, "10 h160": 6,
            "10 h1x": 5, "10 h20": 5, "10 h90": 5, "10 h1 ": 5, "10 h16 ": 6, "10 @7": 3, "10 [7": 3, "10 `7": 3,
            "10 {7": 3, "10 h-1": 4, "10 h+": 4, "10 h0": None, "10 h16": None, "10 h10": None, "10 h9": None,
            "10 h/": 4, "10 h:": 4, "10 h1/": 5, "10 h1:": 5,
            "1000 a7": None, "1000 z7": None, "1000 A7": None, "1000 Z7": None,
        })


class ShapeByForce(unittest.TestCase):
    """The places of fault 1, sought by trying how a text may go on."""

    NUMBER = r"(?:0|[1-9][0-9]{0,8})(?:\.[0-9]{0,3}[1-9])?"
    DEVIATION = rf"(?:\+{NUMBER}|-(?!0(?: |$)){NUMBER})"
    SIZE = re.compile(rf"{NUMBER}(?: \+-{NUMBER}| {DEVIATION} {DEVIATION}| [a-zA-Z](?:[0-9]|1[0-6]))?")
    ENDS = ("", "1", ".1", "-1", " +1", "+1", "1 +1", ".1 +1", "+1 +1")

    def begins_one(self, begin):
        return any(self.SIZE.fullmatch(begin + end) for end in self.ENDS)

    def place(self, size):
        if self.SIZE.fullmatch(size):
            return None
        for k in range(len(size)):
            if not self.begins_one(size[:k + 1]):
                return k
        return len(size)

    def check(self, size):
        given = fault(size)
        expected = self.place(size)
        if expected is None:
            self.assertTrue(given is None or given[0] > 1, (size, given))
        else:
            self.assertEqual(given, (1, expected), repr(size))

    def test_all_short_texts(self):
        for length in range(5):
            for signs in itertools.product("015.+- hH", repeat=length):
                self.check("".join(signs))

    def test_short_texts_behind_a_number(self):
        for length in range(5):
            for signs in itertools.product("016.+- h", repeat=length):
                self.check("7 " + "".join(signs))

    def test_thrown_pieces(self):
        dice = Dice(5)
        pieces = ("0", "0.5", "1", "16", ".", "+", "-", "+-", " ", " ", "h", "Z", "x", "0001", "999999999", "25.0000")
        for k in range(6000):
            self.check("9 " * dice.below(2) + "".join(dice.pick(pieces) for piece in range(1 + dice.below(7))))


class Faults(unittest.TestCase):

    def check(self, expected):
        for size, kind_and_place in expected.items():
            self.assertEqual(fault(size), kind_and_place, size)

    def test_nominal(self):
        self.check({
            "0": (2, 0), "214748.3648": (2, 0), "999999999.9999": (2, 0), "0 +-0": (2, 0), "0 h7": (2, 0),
            "214748.3647": None, "0.0001": None, "0 +1 +0": (2, 0), "123456789": (2, 0),
        })

    def test_too_long_numbers(self):
        self.check({
            "10 +-107374.1825": (3, 5), "10 +107374.1825 +0": (3, 4), "10 +0 -107374.1825": (3, 7),
            "10 +107374.1825 -999999999": (3, 4), "10 +107374.1824 +107374.1825": (3, 17),
            "10 -107374.1825 -107374.1825": (3, 4), "200000 +-107374.1824": None,
            "10 +107374.1824 +107374.1824": None,
        })

    def test_order_of_deviations(self):
        self.check({
            "10 +0.1 +0.2": (4, 8), "10 -0.2 -0.1": (4, 8), "10 -0.2 +0": (4, 8), "10 +0 +0.0001": (4, 6),
            "10 +0.1 +0.1": None,
        })

    def test_unfit_limits(self):
        self.check({
            "10 +-10": (5, 3), "10 +-9.9999": None, "10.5 +0 -10.5": (5, 5), "10 -10 -11": (5, 3),
            "10 +0 -9.9999": None, "0.001 h16": (5, 6), "0.001 Z0": (5, 6), "0.001 H16": None,
        })

    def test_first_kind(self):
        self.check({
            "0 +-1.0": (1, 7), "0 +-107374.1825": (2, 0), "0 +0 +1": (2, 0), "10 +0 +107374.1825": (3, 7),
            "10 -11 -10.5": (4, 7), "10 +107374.1825 +107374.1826": (3, 4), "0 h17": (1, 4),
        })


if __name__ == "__main__":
    unittest.main()
