"""The calls with, gap and gapof."""

import unittest

from tests.helper import (FITTED, PIN, SLOT, ask, assembly, block, gap, gapof, goes, hall, last, sheet, with_sizes)

TIGHT = [line.replace("10.3", "10.1") for line in SLOT]
TOUCHED = [line.replace("clear s l p a 0", "touch s l p a") for line in FITTED]
# A part of three faces, one whose dimension is gone against, and one without dimensions.
STEPPED = ["part step", "face x <", "face y >", "face z >", "dim x y 3 +-0.5", "dim x z 5 +0.2 -0.1", "end"]
POINT = ["part point", "face o >", "end"]


def held(parts, lines):
    return [sheet(parts), assembly(["assembly a"] + lines + ["end"])]


def answer(parts, lines, call):
    return last(*held(parts, lines), call)


class NoAssembly(unittest.TestCase):

    def test_ahead_of_all_else(self):
        calls = [with_sizes([]), with_sizes([1, 2]), gap(0, 0, 0, 0), gap(9, 9, 9, 9), gapof(0, 0, 0, 0, []),
                 gapof(9, 9, 9, 9, [1])]
        self.assertEqual(ask(*calls), [[-3]] * 6)
        self.assertEqual(ask(sheet(PIN + SLOT), *calls)[1:], [[-3]] * 6)
        self.assertEqual(ask(sheet(PIN + SLOT), assembly(FITTED), sheet(PIN), *calls)[3:], [[-3]] * 6)


class With(unittest.TestCase):

    def check(self, parts, lines, expected):
        for sizes, given in expected:
            self.assertEqual(answer(parts, lines, with_sizes(sizes)), [given], sizes)

    def test_go_together_or_not(self):
        self.check(PIN + TIGHT, FITTED[1:-1], [
            ([101000, 100000], 0), ([100000, 100000], 1), ([100001, 100000], 0), ([101000, 101000], 1),
            ([101000, 100999], 0), ([99000, 102000], 1)])

    def test_touches_must_meet(self):
        lines = ["use p pin", "use s slot", "touch s l p a", "touch p b s r"]
        self.check(PIN + TIGHT, lines, [
            ([101000, 101000], 1), ([101000, 101001], 0), ([101000, 100999], 0), ([100000, 100000], 1)])

    def test_clears_of_some_ticks(self):
        lines = ["use p pin", "use s slot", "clear s l p a 0.03", "clear p b s r 0.02"]
        self.check(PIN + SLOT, lines, [([101000, 102000], 1), ([101000, 102000 - 1], -7)])
        self.check(PIN + TIGHT, lines, [([99500, 100000], 1), ([99501, 100000], 0), ([99501, 100001], 1)])

    def test_limits(self):
        lines = ["use t step", "use p pin"]
        self.check(PIN + STEPPED, lines, [
            ([25000, 49000, 99000], 1), ([35000, 52000, 101000], 1),
            ([24999, 49000, 99000], -7), ([25000, 48999, 99000], -7), ([25000, 49000, 98999], -7),
            ([35001, 52000, 101000], -7), ([35000, 52001, 101000], -7), ([35000, 52000, 101001], -7),
            ([-2 ** 40, 52000, 101000], -7), ([35000, 52000, 2 ** 40], -7)])

    def test_not_as_many_ahead_of_not_good(self):
        lines = ["use t step", "use p pin"]
        self.check(PIN + STEPPED, lines, [
            ([], -6), ([25000, 49000], -6), ([25000, 49000, 99000, 1], -6), ([0, 0], -6), ([0, 0, 0, 0], -6), ([0, 0, 0], -7)])

    def test_use_by_use(self):
        # Each use has sizes of its own, those of one part too.
        lines = ["use p pin", "use s slot", "use q pin", "touch s l p a", "clear p b q a 0"]
        parts = PIN + hall("slot", "20 +-0.1")
        self.check(parts, lines + ["clear q b s r 0"], [
            ([100000, 200000, 100000], 1), ([101000, 200000, 99000], 1), ([101000, 200000, 99001], 0),
            ([99000, 199000, 100000], 1), ([99001, 199000, 100000], 0), ([200000, 100000, 100000], -7)])

    def test_without_dimensions(self):
        self.check(POINT, ["use o point", "use p point"], [([], 1), ([0], -6)])

    def test_without_relations(self):
        self.check(PIN, ["use p pin", "use q pin"], [([99000, 101000], 1), ([99000, 101001], -7)])

    def test_long_lists(self):
        self.check(PIN, ["use p pin"], [([100000] * 20000, -6)])


class Gap(unittest.TestCase):

    def check(self, parts, lines, expected):
        for numbers, given in expected.items():
            self.assertEqual(answer(parts, lines, gap(*numbers)), given, numbers)

    def test_both_bounds(self):
        self.check(PIN + SLOT, FITTED[1:-1], {
            (0, 1, 1, 1): [0, 1, 0, 1, 5000], (1, 1, 0, 1): [0, 1, -5000, 1, 0],
            (1, 0, 0, 0): [0, 1, 0, 1, 5000], (1, 0, 0, 1): [0, 1, 99000, 1, 104000]})

    def test_touch_and_clear(self):
        self.check(PIN + SLOT, TOUCHED[1:-1], {
            (0, 1, 1, 1): [0, 1, 1000, 1, 5000], (0, 0, 1, 0): [0, 1, 0, 1, 0], (1, 0, 0, 1): [0, 1, 99000, 1, 101000]})

    def test_one_use(self):
        self.check(PIN + STEPPED, ["use t step", "use p pin"], {
            (0, 0, 0, 1): [0, 1, 25000, 1, 35000], (0, 1, 0, 0): [0, 1, -35000, 1, -25000],
            (0, 1, 0, 2): [0, 1, 14000, 1, 27000], (0, 0, 0, 0): [0, 1, 0, 1, 0], (0, 2, 0, 2): [0, 1, 0, 1, 0],
            (1, 0, 1, 1): [0, 1, 99000, 1, 101000], (1, 1, 1, 1): [0, 1, 0, 1, 0]})

    def test_one_bound_alone(self):
        self.check(PIN, ["use p pin", "use q pin", "clear p b q a 0.5"], {
            (0, 1, 1, 0): [0, 1, 5000, 0], (1, 0, 0, 1): [0, 0, 1, -5000],
            (0, 0, 1, 1): [0, 1, 99000 + 5000 + 99000, 0], (1, 1, 0, 0): [0, 0, 1, -203000],
            (0, 1, 0, 0): [0, 1, -101000, 1, -99000]})

    def test_neither_bound(self):
        lines = ["use p pin", "use q pin", "use r pin", "touch p b q a"]
        self.check(PIN, lines, {
            (0, 0, 2, 0): [0, 0, 0], (2, 1, 1, 0): [0, 0, 0], (0, 0, 1, 1): [0, 1, 198000, 1, 202000],
            (2, 0, 2, 1): [0, 1, 99000, 1, 101000]})
        # Both lie behind p, but neither of them behind the other.
        self.check(PIN, ["use p pin", "use q pin", "use r pin", "clear p b q a 0", "clear p b r a 0"], {
            (1, 0, 2, 0): [0, 0, 0], (0, 1, 2, 0): [0, 1, 0, 0]})

    def test_sizes_are_held_by_relations(self):
        # Touching at both ends, pin and slot are alike: what both may be.
        lines = ["use p pin", "use s slot", "touch s l p a", "touch p b s r"]
        parts = PIN + hall("slot", "10.05 +-0.1")
        self.check(parts, lines, {
            (0, 0, 0, 1): [0, 1, 99500, 1, 101000], (1, 0, 1, 1): [0, 1, 99500, 1, 101000], (0, 1, 1, 1): [0, 1, 0, 1, 0]})
        self.check(PIN + TIGHT, FITTED[1:-1], {
            (0, 0, 0, 1): [0, 1, 99000, 1, 101000], (0, 1, 1, 1): [0, 1, 0, 1, 3000]})

    def test_longest_way_of_several(self):
        lines = ["use p pin", "use q pin", "use r pin", "clear p b q a 0", "clear q b r a 0", "clear p b r a 12"]
        self.check(PIN, lines, {(0, 1, 2, 0): [0, 1, 120000, 0]})
        self.check(PIN, lines[:-1] + ["clear p b r a 9"], {(0, 1, 2, 0): [0, 1, 99000, 0]})

    def test_no_good_sizes(self):
        lines = ["use p pin", "use s slot", "use q pin", "touch s l p a", "clear p b s r 0"]
        every = [(use, face, other, end) for use in range(3) for face in (0, 1) for other in range(3) for end in (0, 1)]
        self.check(PIN + hall("slot", "9.8 +-0.0999"), lines, {numbers: [-5] for numbers in every})
        self.check(PIN + hall("slot", "9.8 +-0.1"), lines, {(0, 0, 0, 1): [0, 1, 99000, 1, 99000], (2, 0, 0, 0): [0, 0, 0]})
        self.check(PIN, ["use p pin", "use q pin", "clear p b q a 0", "clear q b p a 0"], {(0, 0, 0, 0): [-5]})

    def test_none_such_ahead_of_no_good_sizes(self):
        for lines in (["use p pin", "use q pin"], ["use p pin", "use q pin", "clear p b q a 0", "clear q b p a 0"]):
            self.check(PIN, lines, {
                (2, 0, 0, 0): [-4], (0, 2, 0, 0): [-4], (0, 0, 2, 0): [-4], (0, 0, 0, 2): [-4],
                (4294967295, 0, 0, 0): [-4], (0, 4294967295, 0, 0): [-4], (0, 0, 4294967295, 0): [-4],
                (0, 0, 0, 4294967295): [-4]})
        self.check(PIN + STEPPED, ["use p pin", "use t step"], {
            (1, 2, 0, 1): [0, 0, 0], (0, 2, 1, 2): [-4], (1, 2, 0, 2): [-4]})

    def test_long_rows(self):
        uses = [f"use u{k} pin" for k in range(6)]
        lines = uses + [f"touch u{k} b u{k + 1} a" for k in range(5)]
        self.check(PIN, lines, {(0, 0, 5, 1): [0, 1, 594000, 1, 606000], (5, 1, 0, 0): [0, 1, -606000, 1, -594000]})
        lines = uses + [f"clear u{k} b u{k + 1} a {k}" for k in range(5)]
        self.check(PIN, lines, {(0, 0, 5, 1): [0, 1, 694000, 0]})
        # Faces are counted so that each push comes behind the one that it waits for.
        row = ["part row"] + [f"face f{k} {'><'[k % 2]}" for k in range(8)]
        row += [f"dim f{k + 1} f{k} 1 +0.1 +0" for k in range(7)] + ["end"]
        lines = [f"use u{k} row" for k in range(6)] + [f"touch u{k} f0 u{k + 1} f7" for k in reversed(range(5))]
        self.check(row, lines, {(5, 0, 0, 7): [0, 1, -42 * 11000, 1, -42 * 10000], (0, 7, 5, 0): [0, 1, 420000, 1, 462000]})

    def test_far_out(self):
        parts = block("pin", "214748.3647 +107374.1824 -107374.1824")
        lines = ["use p pin", "use q pin", "use r pin", "clear p b q a 107374.1824", "touch q b r a"]
        most = 2147483647 + 2 ** 30
        least = 2147483647 - 2 ** 30
        self.check(parts, lines, {
            (0, 0, 2, 1): [0, 1, 3 * least + 2 ** 30, 0], (1, 0, 2, 1): [0, 1, 2 * least, 1, 2 * most]})


class Gapof(unittest.TestCase):

    def check(self, parts, lines, expected):
        for numbers, sizes, given in expected:
            self.assertEqual(answer(parts, lines, gapof(*numbers, sizes)), given, (numbers, sizes))

    def test_good_sizes(self):
        self.check(PIN + SLOT, FITTED[1:-1], [
            ((0, 1, 1, 1), [101000, 102000], [0, 1, 0, 1, 1000]), ((0, 1, 1, 1), [99000, 104000], [0, 1, 0, 1, 5000]),
            ((0, 0, 0, 1), [100500, 102000], [0, 1, 100500, 1, 100500]), ((1, 1, 1, 0), [99000, 104000], [0, 1, -104000, 1, -104000]),
            ((1, 0, 1, 0), [99000, 104000], [0, 1, 0, 1, 0])])
        self.check(PIN + SLOT, TOUCHED[1:-1], [((0, 1, 1, 1), [101000, 102000], [0, 1, 1000, 1, 1000])])

    def test_sizes_that_are_not_good(self):
        self.check(PIN + SLOT, FITTED[1:-1], [
            ((0, 1, 1, 1), [5, 7], [0, 1, 0, 1, 2]), ((0, 1, 1, 1), [7, 7], [0, 1, 0, 1, 0]),
            ((0, 1, 1, 1), [0, 0], [0, 1, 0, 1, 0]), ((0, 1, 1, 1), [-3, 4], [0, 1, 0, 1, 7]),
            ((0, 0, 0, 1), [-3, 4], [0, 1, -3, 1, -3]), ((0, 1, 1, 1), [-8, -5], [0, 1, 0, 1, 3]),
            ((0, 1, 1, 1), [-2 ** 40, 2 ** 40], [0, 1, 0, 1, 2 ** 41]), ((1, 0, 0, 1), [-2 ** 40, 2 ** 40], [0, 1, -2 ** 40, 1, 2 ** 40])])

    def test_not_together(self):
        for sizes in ([8, 7], [-5, -8], [2 ** 40, -2 ** 40], [102001, 102000]):
            for numbers in ((0, 1, 1, 1), (0, 0, 0, 0), (1, 0, 1, 1)):
                self.check(PIN + SLOT, FITTED[1:-1], [(numbers, sizes, [-5])])

    def test_one_bound_or_none(self):
        lines = ["use p pin", "use q pin", "use r pin", "clear p b q a 0.5"]
        self.check(PIN, lines, [
            ((0, 0, 1, 1), [-1, -2, 5], [0, 1, 4997, 0]), ((1, 1, 0, 0), [1, 2, 5], [0, 0, 1, -5003]),
            ((0, 0, 2, 1), [1, 2, 5], [0, 0, 0]), ((2, 0, 2, 1), [1, 2, 5], [0, 1, 5, 1, 5])])

    def test_goes_though_no_good_sizes_do(self):
        lines = ["use p pin", "use s slot", "touch s l p a", "touch p b s r"]
        calls = held(PIN + SLOT, lines)
        given = ask(*calls, gap(0, 0, 0, 1), gapof(0, 0, 1, 1, [100000, 100000]), gapof(0, 0, 1, 1, [100000, 102000]))
        self.assertEqual(given[2:], [[-5], [0, 1, 100000, 1, 100000], [-5]])

    def test_refusals_in_order(self):
        self.check(PIN + SLOT, FITTED[1:-1], [
            ((2, 0, 0, 0), [], [-4]), ((0, 2, 0, 0), [1], [-4]), ((0, 0, 2, 0), [8, 7], [-4]), ((0, 0, 0, 2), [8, 7, 6], [-4]),
            ((0, 0, 0, 4294967295), [8, 7], [-4]), ((4294967295, 0, 0, 0), [8, 7], [-4]),
            ((0, 0, 0, 0), [], [-6]), ((0, 0, 0, 0), [8], [-6]), ((0, 0, 0, 0), [8, 7, 7], [-6]), ((0, 0, 0, 0), [8, 7], [-5])])

    def test_without_dimensions(self):
        self.check(POINT, ["use o point", "use p point"], [
            ((0, 0, 0, 0), [], [0, 1, 0, 1, 0]), ((0, 0, 1, 0), [], [0, 0, 0]), ((0, 0, 1, 0), [0], [-6])])


class NothingChanged(unittest.TestCase):

    def test_asked_twice(self):
        calls = [goes(), gap(0, 1, 1, 1), with_sizes([101000, 100000]), gapof(0, 1, 1, 1, [5, 7]), with_sizes([0]),
                 gapof(0, 1, 1, 1, [7, 5]), gap(0, 2, 0, 0)]
        given = ask(sheet(PIN + TIGHT), assembly(FITTED), *calls, *calls)[2:]
        self.assertEqual(given[:7], [[1, 1000, 1, 2], [0, 1, 0, 1, 3000], [0], [0, 1, 0, 1, 2], [-6], [-5], [-4]])
        self.assertEqual(given[7:], given[:7])


if __name__ == "__main__":
    unittest.main()
