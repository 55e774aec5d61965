"""The document's examples of the calls sheet to goes."""

import unittest

from tests.helper import FITTED, PIN, SLOT, ask, assembly, between, chain, find, goes, good, joined, last, sheet


class Examples(unittest.TestCase):

    def test_pin_and_slot(self):
        given = ask(sheet(PIN + SLOT), between(0, 1, 0), chain(0, 1, 0), good(0, [101001]), goes(),
                    assembly(FITTED), goes())
        self.assertEqual(given, [[2], [0, -101000, -99000], [1, -1], [1], [-3], [2], [0]])

    def test_want_of_less(self):
        lines = [line.replace("+0.5", "+0.4") for line in FITTED]
        self.assertEqual(ask(sheet(PIN + SLOT), assembly(lines), goes()), [[2], [2], [0]])

    def test_slot_too_small(self):
        slot = [line.replace("10.3", "10.1") for line in SLOT]
        self.assertEqual(ask(sheet(PIN + slot), assembly(FITTED), goes()), [[2], [2], [1, 1000, 1, 2]])

    def test_touch_instead_of_clear(self):
        lines = [line.replace("clear s l p a 0", "touch s l p a") for line in FITTED]
        self.assertEqual(ask(sheet(PIN + SLOT), assembly(lines), goes()), [[2], [2], [0]])

    def test_part_without_dimensions(self):
        self.assertEqual(ask(sheet(["part a", "face x <", "end"]), find("a")), [[1], [0, 1, 0]])

    def test_part_without_faces(self):
        self.assertEqual(last(sheet(["part a", "end"])), [-2, 1, 7])

    def test_no_such_face(self):
        lines = ["part p", "face a <", "face b >", "dim a c 10", "end"]
        self.assertEqual(last(sheet(lines)), [-2, 9, joined(lines).index("c 10")])

    def test_sizes_of_the_words(self):
        begin = joined(["part p", "face a <", "face b >"]) + "dim a b "
        for size, place in (("2.50", 4), ("25.0000", 6)):
            self.assertEqual(last(sheet(begin + size + "\nend\n")), [-2, 2, len(begin) + place])
        self.assertEqual(last(sheet(begin + "2.501\nend\n")), [1])


if __name__ == "__main__":
    unittest.main()
