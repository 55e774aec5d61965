"""The document's examples, number by number."""

import unittest

from fitparts.board import answers
from tests.helper import (FITTED, PIN, SLOT, ask, assembly, best, between, chain, codes, find, gap, goes, good, idle, joined,
                          judge, last, price, sheet, wants, with_sizes)

NARROW = [line.replace("+0.5", "+0.4") for line in FITTED]
OFFERS = [[0, 0, -1000, 1000, 5], [0, 0, -500, 1000, 9], [1, 0, -1000, 1000, 4], [1, 0, -1000, 0, 6], [1, 0, -2500, 0, 1]]


class Examples(unittest.TestCase):

    def test_pin_and_slot(self):
        given = ask(sheet(PIN + SLOT), between(0, 1, 0), chain(0, 1, 0), good(0, [101001]), goes(),
                    assembly(FITTED), goes(), gap(0, 1, 1, 1), wants(), with_sizes([101000, 102000]))
        self.assertEqual(given, [[2], [0, -101000, -99000], [1, -1], [1], [-3], [2], [0], [0, 1, 0, 1, 5000], [0], [1]])

    def test_want_of_less(self):
        self.assertEqual(ask(sheet(PIN + SLOT), assembly(NARROW), goes(), wants()), [[2], [2], [0], [1]])

    def test_slot_too_small(self):
        slot = [line.replace("10.3", "10.1") for line in SLOT]
        self.assertEqual(ask(sheet(PIN + slot), assembly(FITTED), goes()), [[2], [2], [1, 1000, 1, 2]])

    def test_touch_instead_of_clear(self):
        lines = [line.replace("clear s l p a 0", "touch s l p a") for line in FITTED]
        self.assertEqual(ask(sheet(PIN + SLOT), assembly(lines), goes(), gap(0, 1, 1, 1)),
                         [[2], [2], [0], [0, 1, 1000, 1, 5000]])

    def test_offers(self):
        given = ask(sheet(PIN + SLOT), assembly(NARROW), judge(OFFERS), best(-1, OFFERS), best(11, OFFERS), best(15, OFFERS),
                    idle(OFFERS), price([0, 3], OFFERS), price([0, 2], OFFERS))
        self.assertEqual(given[2:], [[2], [11, 0, 3], [15, 1, 3], [-5], [2, 0, 0, 1, 0, 1], [11], [-5]])

    def test_as_lists(self):
        parts = codes(joined(PIN + SLOT))
        lines = codes(joined(NARROW))
        offers = [5, 0, 0, -1000, 1000, 5, 5, 0, 0, -500, 1000, 9, 5, 1, 0, -1000, 1000, 4, 5, 1, 0, -1000, 0, 6,
                  5, 1, 0, -2500, 0, 1]
        calls = [1, 0, 1, len(parts)] + parts + [7, 0, 1, len(lines)] + lines
        calls += [8, 0, 0, 9, 0, 1, 2, 101000, 102000, 10, 4, 0, 1, 1, 1, 0, 11, 4, 0, 1, 1, 1, 1, 2, 101000, 102000, 12, 0, 0]
        calls += [13, 0, 5] + offers + [14, 0, 6, 2, 0, 3] + offers + [15, 1, -1, 5] + offers + [15, 1, 11, 5] + offers
        calls += [15, 1, 15, 5] + offers + [16, 0, 5] + offers
        expected = [1, 2, 1, 2, 1, 0, 1, 1, 5, 0, 1, 0, 1, 5000, 5, 0, 1, 0, 1, 1000, 1, 1, 1, 2, 1, 11, 3, 11, 0, 3,
                    3, 15, 1, 3, 1, -5, 6, 2, 0, 0, 1, 0, 1]
        self.assertEqual(answers(calls), expected)

    def test_part_without_dimensions(self):
        self.assertEqual(ask(sheet(["part a", "face x <", "end"]), find("a")), [[1], [0, 1, 0]])

    def test_part_without_faces(self):
        self.assertEqual(last(sheet(["part a", "end"])), [-2, 1, 7])

    def test_no_such_face(self):
        lines = ["part p", "face a <", "face b >", "dim a c 10", "end"]
        self.assertEqual(last(sheet(lines)), [-2, 9, joined(lines).index("c 10")])

    def test_sizes_of_the_words(self):
        begin = joined(["part p", "face a <", "face b >"]) + "dim a b "
        for size, place in (("2.50", 4), ("25.0000", 6)):
            self.assertEqual(last(sheet(begin + size + "\nend\n")), [-2, 2, len(begin) + place])
        self.assertEqual(last(sheet(begin + "2.501\nend\n")), [1])


if __name__ == "__main__":
    unittest.main()
