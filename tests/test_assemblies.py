"""An assembly's text: what is taken, and its faults with their places."""

import unittest

from tests.helper import FITTED, PIN, SLOT, ask, assembly, goes, joined, last, sheet

BEGIN = ["assembly a", "use p pin", "use s slot", "use q pin"]
SHEET = sheet(PIN + SLOT)


def place_of(lines, number, ahead=0):
    """The place at which a line begins, or so many bytes behind it."""
    return len(joined(lines[:number])) + ahead


class Assemblies(unittest.TestCase):

    def check_fault(self, lines, kind, place):
        self.assertEqual(ask(SHEET, assembly(lines), goes())[1:], [[-2, kind, place], [-3]], lines)

    def check_line(self, line, kind, ahead, begin=BEGIN):
        """The fault of a line behind others that have none."""
        self.check_fault(begin + [line, "end"], kind, place_of(begin, len(begin), ahead))

    def check_taken(self, lines, count):
        self.assertEqual(last(SHEET, assembly(lines)), [count], lines)


class WhatIsTaken(Assemblies):

    def test_uses_alone(self):
        self.check_taken(["assembly a", "use p pin", "end"], 1)
        self.check_taken(BEGIN + ["end"], 3)

    def test_one_part_twice(self):
        self.check_taken(["assembly pin", "use pin pin", "use slot pin", "touch pin b slot a", "end"], 2)

    def test_as_many_as_may_be(self):
        uses = [f"use u{k} pin" for k in range(6)]
        relations = [f"touch u{k % 6} b u{(k + 1) % 6} a" for k in range(12)]
        wants = [f"want u{k} a u{k} b +0 +1" for k in range(6)]
        self.check_taken(["assembly a"] + uses + relations + wants + ["end"], 6)

    def test_relations_in_any_order(self):
        self.check_taken(BEGIN + ["clear p b q a 1", "touch s l p a", "clear p b q a 0.0001", "end"], 3)

    def test_edges_of_numbers(self):
        for number in ("0", "0.5", "107374.1824", "0.0001"):
            self.check_taken(BEGIN + [f"clear p b q a {number}", "end"], 3)
        for bounds in ("+0 +0", "-0.5 +0", "-107374.1824 +107374.1824", "-2 -1", "+1 +1", "-0.0001 +0.0001"):
            self.check_taken(BEGIN + [f"want p b q a {bounds}", "end"], 3)

    def test_wants_between_any_faces(self):
        for names in ("p a p b", "p a p a", "p a q a", "p b p a", "s r s l", "s l q b"):
            self.check_taken(BEGIN + [f"want {names} +0 +1", "end"], 3)

    def test_names_of_twelve_bytes(self):
        name = "a23456789012"
        part = [f"part {name}", f"face {name} <", "end"]
        lines = [f"assembly {name}", f"use {name} {name}", f"want {name} {name} {name} {name} +0 +0", "end"]
        self.assertEqual(last(sheet(part), assembly(lines)), [1])

    def test_a_new_assembly_takes_the_old_ones_place(self):
        tight = [line.replace("10.3", "10.1") for line in SLOT]
        given = ask(sheet(PIN + tight), assembly(FITTED), goes(), assembly(["assembly b", "use p pin", "end"]), goes())
        self.assertEqual(given, [[2], [2], [1, 1000, 1, 2], [1], [0]])


class Length(Assemblies):

    def test_bytes(self):
        begin = joined(BEGIN) + "clear p b q a "
        for length, answer in ((16384, [-2, 2, len(begin)]), (16385, [-1])):
            self.assertEqual(last(SHEET, assembly(begin + "1" * (length - len(begin) - 1) + "\n")), answer)
        self.assertEqual(last(assembly("x" * 16385)), [-1])
        self.assertEqual(last(assembly("x" * 16384)), [-2, 1, 0])


class Fault1(Assemblies):

    def test_empty_and_first_lines(self):
        self.check_fault("", 1, 0)
        for line in ("", "assembly", "assembly ", "assembly A", "assembly a b", "assembly abcdefghijklm", " assembly a",
                     "use p pin", "end", "part p", "touch p b q a"):
            self.check_fault([line] + BEGIN[1:] + ["end"], 1, 0)

    def test_no_such_line(self):
        for line in ("", " ", "use", "use ", "use r", "use r ", "use r pin ", "use r  pin", "use R pin", "use r Pin",
                     "use r pin x", "use abcdefghijklm pin", "use r abcdefghijklm", "touch", "touch p b q", "touch p b q ",
                     "touch p b q a ", "touch p b q a 0", "touch  p b q a", "touch p  b q a", "touch p B q a",
                     "touch p b q abcdefghijklm", "clear p b q a", "clear p b q", "clear p b  q a 0", "clear P b q a 0",
                     "want p b q a", "want p b q", "want p b q  a +0 +1", "want p b q 1 +0 +1", "end ", "End", "end\r",
                     "assembly b", "part x", "Touch p b q a"):
            self.check_line(line, 1, 0)

    def test_lines_that_may_not_come_there(self):
        for line in ("assembly b", "use r pin"):
            for ahead in ("touch p b q a", "clear p b q a 0", "want p b q a +0 +1"):
                self.check_line(line, 1, 0, BEGIN + [ahead])
        for line in ("touch p b q a", "clear p b q a 0"):
            self.check_line(line, 1, 0, BEGIN + ["want p b q a +0 +1"])
        for line in ("touch p b q a", "clear p b q a 0", "want p b q a +0 +1", "end", "assembly b"):
            self.check_line(line, 1, 0, ["assembly a"])

    def test_nothing_behind_end(self):
        lines = BEGIN + ["end"]
        for line in ("end", "", "use r pin", "assembly b", "want p b q a +0 +1", "x"):
            self.check_fault(lines + [line], 1, place_of(lines, len(lines)))
        self.check_fault(joined(lines) + "x", 1, place_of(lines, len(lines)))
        self.check_fault(joined(lines) + " ", 1, place_of(lines, len(lines)))

    def test_text_ends_early(self):
        whole = joined(FITTED)
        starts = [0] + [k + 1 for k, sign in enumerate(whole) if sign == "\n"]
        for length in range(len(whole)):
            self.check_fault(whole[:length], 1, max(k for k in starts if k <= length))
        self.check_taken(whole, 2)


class Faults2To4(Assemblies):

    def test_no_number(self):
        for rest in ("", " ", "x", "+1", "-1", "01", "1.", "1.0", "1.50", "1.12345", "1234567890", "1 ", " 1", "1 1", ".5"):
            self.check_line(f"clear p b q a {rest}", 2, 14)

    def test_no_two_deviations(self):
        for rest in ("", " ", "x", "1", "+1", "+1 ", "+1 1", "1 +1", "+1  +2", "+1 +2 ", " +1 +2", "+-1", "-0 +1", "-1 -0",
                     "+1 +2 +3", "+1 +2.0", "+1.0 +2", "+1,+2", "+01 +2", "+1\t+2", "+1 +2x", "+1x +2", "+1 +-2"):
            self.check_line(f"want p b q a {rest}", 2, 13)

    def test_too_great(self):
        self.check_line("clear p b q a 107374.1825", 3, 14)
        self.check_line("clear p b q a 999999999.9999", 3, 14)
        self.check_line("want p b q a -107374.1825 +0", 3, 13)
        self.check_line("want p b q a +107374.1825 +0", 3, 13)
        self.check_line("want p b q a +0 +107374.1825", 3, 16)
        self.check_line("want p b q a +0 -107374.1825", 3, 16)
        self.check_line("want p b q a -107374.1825 +107374.1825", 3, 13)

    def test_least_above_most(self):
        self.check_line("want p b q a +1 +0.9999", 4, 16)
        self.check_line("want p b q a -1 -1.0001", 4, 16)
        self.check_line("want p b q a +0 -0.0001", 4, 16)

    def test_ahead_of_the_other_kinds(self):
        self.check_line("clear x x x x 1.0", 2, 14)
        self.check_line("want x x x x +1 +0", 4, 16)
        self.check_line("want x x x x +1 +107374.1825", 3, 16)
        full = BEGIN + ["touch p b q a"] * 12
        self.check_line("clear p b q a 107374.1825", 3, 14, full)


class Faults7And8(Assemblies):

    def test_names_that_are_there(self):
        self.check_line("use p slot", 7, 4)
        self.check_line("use q x", 7, 4)

    def test_one_more(self):
        uses = ["assembly a"] + [f"use u{k} pin" for k in range(6)]
        self.check_line("use v pin", 8, 0, uses)
        self.check_line("use v x", 8, 0, uses)
        self.check_line("use u5 pin", 7, 4, uses)
        relations = BEGIN + ["touch p b q a", "clear p b q a 0"] * 6
        for line in ("touch p b q a", "clear p b q a 0", "touch x x x x", "clear p a p a 0"):
            self.check_line(line, 8, 0, relations)
        wants = BEGIN + ["want p b q a +0 +1"] * 6
        for line in ("want p b q a +0 +1", "want x x x x +0 +1"):
            self.check_line(line, 8, 0, wants)


class Faults9To11(Assemblies):

    def test_no_such_name(self):
        self.check_line("use r x", 9, 6)
        self.check_line("use r p", 9, 6)
        for names, ahead in (("x b q a", 0), ("p x q a", 2), ("p b x a", 4), ("p b q x", 6), ("x x x x", 0), ("p x x x", 2),
                             ("p b x x", 4), ("p l q a", 2), ("pin b q a", 0), ("p b p x", 6), ("p a q x", 6)):
            self.check_line(f"touch {names}", 9, 6 + ahead)
            self.check_line(f"clear {names} 0", 9, 6 + ahead)
            self.check_line(f"want {names} +0 +1", 9, 5 + ahead)

    def test_no_part_at_all(self):
        self.assertEqual(last(assembly(["assembly a", "use p pin", "end"])), [-2, 9, 17])

    def test_one_use_twice(self):
        for names in ("p b p a", "p a p a", "p a p b"):
            self.check_line(f"touch {names}", 10, 10)
            self.check_line(f"clear {names} 0", 10, 10)

    def test_sides(self):
        for names, ahead in (("p a q a", 2), ("p a q b", 2), ("p b q b", 6), ("s r q a", 2), ("p b s l", 6)):
            self.check_line(f"touch {names}", 11, 6 + ahead)
            self.check_line(f"clear {names} 0", 11, 6 + ahead)

    def test_first_line_first(self):
        lines = BEGIN + ["touch p b p a", "clear p b q a x", "use p pin"]
        self.check_fault(lines, 10, place_of(lines, 4, 10))


if __name__ == "__main__":
    unittest.main()
