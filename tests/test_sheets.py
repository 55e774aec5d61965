"""A sheet's text: what it says, its faults 1 to 11 and their places, and that it is given back as it was."""

import unittest

from tests.helper import Dice, PIN, SLOT, ask, codes, find, joined, last, sheet, sheet_text_answer, text

FACES = ["face a <", "face b >"]


def place_of(lines, number, ahead=0):
    """The place at which a line begins, or so many bytes behind it."""
    return len(joined(lines[:number])) + ahead


def row_part(name, count):
    """A part with so many faces, one behind another."""
    faces = [f"face f{k} {'<>'[k % 2]}" for k in range(count)]
    dims = [f"dim f{k} f{k + 1} {k + 1}" for k in range(count - 1)]
    return [f"part {name}"] + faces + dims + ["end"]


class Sheets(unittest.TestCase):

    def check_fault(self, lines, kind, place):
        self.assertEqual(last(sheet(lines)), [-2, kind, place], lines)

    def check_taken(self, lines, count):
        self.assertEqual(ask(sheet(lines), text()), [[count], sheet_text_answer(lines)])


class WhatIsTaken(Sheets):

    def test_new_board_and_empty_text(self):
        self.assertEqual(ask(text(), sheet(""), text()), [[0], [0], [0]])

    def test_text_comes_back(self):
        self.check_taken(PIN + SLOT, 2)
        self.check_taken(["part p"] + FACES + ["face c <", "dim c a 0.0001", "dim c b 12.3 +0.5 -0.25", "end"], 1)
        sizes = ["1", "10 +-0", "10 +0 +0", "10 +0.5 -0.5", "10 -0.0001 -0.0002", "10 h7", "214748.3647 Z16", "10 +-0.0001"]
        for size in sizes:
            self.check_taken(["part p"] + FACES + [f"dim a b {size}", "end"], 1)

    def test_sixteen_parts_and_eight_faces(self):
        lines = [line for k in range(16) for line in row_part(f"p{k}", 8)]
        self.check_taken(lines, 16)
        self.assertEqual(last(sheet(lines), find("p15")), [15, 8, 7])

    def test_names_of_twelve_bytes(self):
        name = "a23456789012"
        self.check_taken([f"part {name}", f"face {name} <", f"face z{name[1:]} >", f"dim {name} z{name[1:]} 1", "end"], 1)
        self.check_taken(["part part", "face face <", "face end >", "face dim <", "dim end dim 1", "dim dim face 2", "end"], 1)

    def test_a_new_sheet_takes_the_old_ones_place(self):
        self.assertEqual(ask(sheet(PIN), sheet(SLOT), text(), find("pin"), find("slot")),
                         [[1], [1], sheet_text_answer(SLOT), [-5], [0, 2, 1]])

    def test_faces_named_alike_in_two_parts(self):
        self.check_taken(PIN + ["part q"] + PIN[1:], 2)


class Length(Sheets):

    def test_bytes(self):
        # As a text of 16,384 bytes is read, a fault of it is told.
        begin = joined(["part p"] + FACES) + "dim a b 1"
        for length, answer in ((16384, [-2, 2, len(begin)]), (16385, [-1])):
            self.assertEqual(last(sheet(begin + "x" * (length - len(begin) - 1) + "\n")), answer)
        self.assertEqual(last(sheet("x" * 16385)), [-1])
        self.assertEqual(last(sheet("x" * 16384)), [-2, 1, 0])


class Fault1(Sheets):

    def test_no_such_line(self):
        for line in ("", " ", "part", "part ", "part  p", "part p ", " part p", "part P", "part 1a", "part a_", "part a b",
                     "Part p", "parts p", "part\tp", "part p\r", "part \xe9", "part abcdefghijklm", "face a <", "dim a b 1",
                     "end", "x", "assembly a", "use a b"):
            self.check_fault(PIN + [line], 1, place_of(PIN, len(PIN)))
            self.check_fault([line] + PIN, 1, 0)

    def test_edges_of_a_names_bytes(self):
        for name in ("a`", "a{", "a/", "a:", "aA", "a@", "a[", "aZ", "`", "{", "0", "9", "A", "Z"):
            self.check_fault([f"part {name}", "face a <", "end"], 1, 0)
        for name in ("a", "z", "a0", "a9", "az", "za"):
            self.check_taken([f"part {name}", "face a <", "end"], 1)

    def test_no_such_face_line(self):
        for line in ("face", "face ", "face a", "face a ", "face a =", "face a <>", "face a < ", "face  a <", "face A <",
                     "face a  <", "face abcdefghijklm <", "facea <", "face < a", "part q", "dim a b 1", "end", ""):
            lines = ["part p", line] + FACES + ["end"]
            self.check_fault(lines, 1, place_of(lines, 1))

    def test_no_such_dim_line(self):
        for line in ("dim", "dim ", "dim a", "dim a ", "dim a b", "dim  a b 1", "dim a  b 1", "dim A b 1", "dim a B 1",
                     "dim abcdefghijklm b 1", "dim a 1 1", "part q", "end ", "End", ""):
            lines = ["part p"] + FACES + [line, "end"]
            self.check_fault(lines, 1, place_of(lines, 3))

    def test_lines_that_may_not_come_there(self):
        lines = ["part p"] + FACES + ["dim a b 1", "face c <", "end"]
        self.check_fault(lines, 1, place_of(lines, 4))
        lines = ["part p"] + FACES + ["dim a b 1", "part q", "end"]
        self.check_fault(lines, 1, place_of(lines, 4))
        lines = PIN + ["end"]
        self.check_fault(lines, 1, place_of(lines, len(PIN)))
        self.check_fault(["part a", "end"], 1, 7)

    def test_text_ends_within_a_line(self):
        whole = joined(PIN + SLOT)
        starts = [0] + [k + 1 for k, sign in enumerate(whole) if sign == "\n"]
        for length in range(len(whole)):
            start = max(k for k in starts if k <= length)
            between_parts = length in (0, len(joined(PIN)))
            self.assertEqual(last(sheet(whole[:length])), [int(length > 0)] if between_parts else [-2, 1, start], length)

    def test_text_ends_between_lines(self):
        for count in (1, 2, 3, 4):
            self.check_fault(PIN[:count], 1, place_of(PIN, count))
        self.check_fault(PIN + SLOT[:2], 1, place_of(PIN + SLOT, len(PIN) + 2))

    def test_first_of_what_one_line_has(self):
        # A line without a line feed is no line, whatever else is wrong in it.
        self.check_fault(joined(["part p"] + FACES) + "dim a x 0", 1, place_of(["part p"] + FACES, 3))
        self.check_fault(joined(PIN) + "part pin", 1, place_of(PIN, len(PIN)))


class Faults2To6(Sheets):

    def check_size(self, size, kind, place):
        lines = ["part p"] + FACES + [f"dim a b {size}", "end"]
        self.check_fault(lines, kind, place_of(lines, 3, 8 + place))

    def test_each(self):
        self.check_size("", 2, 0)
        self.check_size("1 ", 2, 2)
        self.check_size("1  h7", 2, 2)
        self.check_size("0", 3, 0)
        self.check_size("1 +-107374.1825", 4, 4)
        self.check_size("1 +0 +1", 5, 5)
        self.check_size("1 +-1", 6, 2)

    def test_ahead_of_the_names(self):
        lines = ["part p"] + FACES + ["dim x y 0", "end"]
        self.check_fault(lines, 3, place_of(lines, 3, 8))
        lines = ["part p"] + FACES + ["dim a a 2.50", "end"]
        self.check_fault(lines, 2, place_of(lines, 3, 12))


class Fault7And8(Sheets):

    def test_names_that_are_there(self):
        self.check_fault(PIN + PIN, 7, place_of(PIN, len(PIN), 5))
        lines = ["part p", "face a <", "face b <", "face a >", "end"]
        self.check_fault(lines, 7, place_of(lines, 3, 5))

    def test_one_part_more(self):
        lines = [line for k in range(16) for line in row_part(f"p{k}", 1)]
        self.check_fault(lines + ["part q"], 8, place_of(lines, len(lines)))
        self.check_fault(lines + ["part p0"], 7, place_of(lines, len(lines), 5))

    def test_one_face_more(self):
        lines = row_part("p", 8)[:9]
        self.check_fault(lines + ["face g <"], 8, place_of(lines, 9))
        self.check_fault(lines + ["face f7 <"], 7, place_of(lines, 9, 5))


class Faults9To11(Sheets):

    def test_no_such_face(self):
        for names, ahead in (("x b", 4), ("a x", 6), ("x y", 4), ("x x", 4)):
            lines = ["part p"] + FACES + [f"dim {names} 1", "end"]
            self.check_fault(lines, 9, place_of(lines, 3, ahead))

    def test_face_of_another_part(self):
        lines = PIN + ["part q", "face c <", "dim c a 1", "end"]
        self.check_fault(lines, 9, place_of(lines, len(PIN) + 2, 6))

    def test_joined_already(self):
        for line in ("dim a a 1", "dim a b 1", "dim b a 1", "dim c a 1", "dim a c 1"):
            lines = ["part p"] + FACES + ["face c >", "dim a b 1", "dim b c 1", line, "end"]
            self.check_fault(lines, 10, place_of(lines, 6))
        lines = ["part p"] + FACES + ["dim b b 1", "end"]
        self.check_fault(lines, 10, place_of(lines, 3))

    def test_not_joined_with_the_first(self):
        begin = ["part p"] + FACES + ["face cc >", "face d <"]
        self.check_fault(begin + ["end"], 11, place_of(begin, 2, 5))
        self.check_fault(begin + ["dim b a 1", "dim cc d 1", "end"], 11, place_of(begin, 3, 5))
        self.check_fault(begin + ["dim b cc 1", "dim cc d 1", "end"], 11, place_of(begin, 2, 5))
        self.check_fault(begin + ["dim cc a 1", "dim b cc 1", "end"], 11, place_of(begin, 4, 5))
        self.check_taken(begin + ["dim cc a 1", "dim b cc 1", "dim d b 1", "end"], 1)

    def test_in_the_second_part(self):
        lines = PIN + ["part q"] + FACES + ["end"]
        self.check_fault(lines, 11, place_of(lines, len(PIN) + 2, 5))

    def test_first_line_first(self):
        lines = ["part p", "face a <", "face a <", "dim x y 0", "x"]
        self.check_fault(lines, 7, place_of(lines, 2, 5))


class OneTextAlone(Sheets):

    def test_changed_texts(self):
        """A text that is taken is the sheet's own, however it was come by."""
        dice = Dice(11)
        whole = codes(joined(PIN + row_part("q", 3) + ["part r", "face a <", "face b >", "dim a b 5 +0.5 -0.5", "end"]))
        signs = codes("abp0159.+-<> \n\xff")
        taken = 0
        for k in range(3000):
            changed = list(whole)
            for change in range(1 + dice.below(2)):
                place = dice.below(len(changed))
                changed[place:place + dice.below(3)] = [dice.pick(signs)] * dice.below(2)
            given = ask([1, 0, 1, len(changed)] + changed, text())
            if given[0][0] >= 0:
                taken += 1
                self.assertEqual(given[1], [len(changed)] + changed)
            else:
                self.assertEqual(given[1], [0])
                self.assertEqual(given[0][0], -2)
        self.assertGreater(taken, 300)


if __name__ == "__main__":
    unittest.main()
