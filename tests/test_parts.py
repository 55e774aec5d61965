"""The calls find, between, chain and good."""

import itertools
import unittest

from tests.helper import Dice, PIN, SLOT, ask, between, chain, find, good, last, sheet

# a -1-> b, c -2-> b, c -3-> d, e -4-> a: from d to e it's against 3, along 2, against 1, against 4.
BRANCHED = ["part p", "face a <", "face b >", "face c <", "face d >", "face e <",
            "dim a b 10 +0.2 -0.1", "dim c b 4 +-0.3", "dim c d 7 +0.6 +0.5", "dim e a 1", "end"]


def thrown_part(dice, count):
    """The lines of a part whose dimensions join its faces at hazard, and these dimensions."""
    dims = []
    for k in range(1, count):
        pair = [k, dice.below(k)]
        if dice.below(2):
            pair.reverse()
        dims.append((pair[0], pair[1], 50 + dice.below(100), dice.below(20), dice.below(20)))
    order = sorted(dims, key=lambda dim: dice.below(1000))
    lines = ["part p"] + [f"face f{k} <" for k in range(count)]
    lines += [f"dim f{dim[0]} f{dim[1]} {dim[2]} +{dim[3]} -{dim[4]}".replace("-0", "+0") for dim in order]
    return lines + ["end"], order


class Find(unittest.TestCase):

    def test_found(self):
        self.assertEqual(ask(sheet(PIN + SLOT + BRANCHED), find("pin"), find("slot"), find("p"))[1:],
                         [[0, 2, 1], [1, 2, 1], [2, 5, 4]])

    def test_not_found(self):
        self.assertEqual(ask(find("pin"), find("")), [[-5], [-5]])
        for name in ("", "pi", "pinn", "Pin", "pin\n", "\xff", "a", "x" * 5000):
            self.assertEqual(last(sheet(PIN), find(name)), [-5], name)


class Between(unittest.TestCase):

    def test_along_and_against(self):
        given = ask(sheet(BRANCHED), between(0, 0, 1), between(0, 1, 0), between(0, 2, 0), between(0, 0, 2),
                    between(0, 3, 4), between(0, 4, 3), between(0, 2, 3))
        self.assertEqual(given[1:], [
            [0, 99000, 102000],
            [0, -102000, -99000],
            [0, 37000 - 102000, 43000 - 99000],
            [0, 99000 - 43000, 102000 - 37000],
            [0, 37000 - 76000 - 102000 - 10000, 43000 - 75000 - 99000 - 10000],
            [0, 10000 + 99000 + 75000 - 43000, 10000 + 102000 + 76000 - 37000],
            [0, 75000, 76000]])

    def test_a_face_to_itself(self):
        self.assertEqual(ask(sheet(BRANCHED), *[between(0, f, f) for f in range(5)])[1:], [[0, 0, 0]] * 5)
        self.assertEqual(last(sheet(["part a", "face x <", "end"]), between(0, 0, 0)), [0, 0, 0])

    def test_none_such(self):
        self.assertEqual(last(between(0, 0, 0)), [-4])
        for numbers in ((1, 0, 0), (0, 2, 0), (0, 0, 2), (4294967295, 0, 0), (0, 4294967295, 1), (0, 1, 4294967295)):
            self.assertEqual(ask(sheet(PIN), between(*numbers), chain(*numbers)), [[1], [-4], [-4]], numbers)

    def test_limits_are_reached(self):
        """Of all good true sizes at their limits the least and the greatest sum are those told."""
        dice = Dice(3)
        for k in range(30):
            lines, dims = thrown_part(dice, 2 + dice.below(5))
            count = len(dims) + 1
            spans = [[] for pair in range(count * count)]
            for ends in itertools.product((0, 1), repeat=len(dims)):
                places = {0: 0}
                while len(places) < count:
                    for dim, end in zip(dims, ends):
                        size = dim[2] + dim[3] if end else dim[2] - dim[4]
                        if dim[0] in places:
                            places[dim[1]] = places[dim[0]] + size
                        elif dim[1] in places:
                            places[dim[0]] = places[dim[1]] - size
                for f, g in itertools.product(range(count), repeat=2):
                    spans[f * count + g].append((places[g] - places[f]) * 10000)
            pairs = list(itertools.product(range(count), repeat=2))
            given = ask(sheet(lines), *[between(0, f, g) for f, g in pairs])
            self.assertEqual(given[1:], [[0, min(span), max(span)] for span in spans])


class Chain(unittest.TestCase):

    def test_along_and_against(self):
        given = ask(sheet(PIN + BRANCHED), chain(1, 3, 4), chain(1, 4, 3), chain(1, 0, 1), chain(1, 1, 0),
                    chain(1, 2, 0), chain(1, 2, 2), chain(1, 4, 1))
        self.assertEqual(given[1:], [[4, -3, 2, -1, -4], [4, 4, 1, -2, 3], [1, 1], [1, -1], [2, 2, -1], [0], [2, 4, 1]])

    def test_thrown_parts(self):
        dice = Dice(8)
        for k in range(40):
            lines, dims = thrown_part(dice, 1 + dice.below(8))
            pairs = list(itertools.product(range(len(dims) + 1), repeat=2))
            for (f, g), steps in zip(pairs, ask(sheet(lines), *[chain(0, f, g) for f, g in pairs])[1:]):
                self.assertEqual(steps[0], len(steps) - 1)
                self.assertEqual(len({abs(step) for step in steps[1:]}), steps[0])
                at = f
                for step in steps[1:]:
                    dim = dims[abs(step) - 1]
                    self.assertEqual(at, dim[0] if step > 0 else dim[1])
                    at = dim[1] if step > 0 else dim[0]
                self.assertEqual(at, g)


class Good(unittest.TestCase):

    LEAST = [99000, 37000, 75000, 10000]
    MOST = [102000, 43000, 76000, 10000]

    def answer(self, sizes):
        return last(sheet(PIN + BRANCHED), good(1, sizes))

    def test_at_the_limits(self):
        self.assertEqual(self.answer(self.LEAST), [0])
        self.assertEqual(self.answer(self.MOST), [0])

    def test_one_tick_beyond(self):
        for k in range(4):
            below = self.LEAST[:k] + [self.LEAST[k] - 1] + self.LEAST[k + 1:]
            above = self.MOST[:k] + [self.MOST[k] + 1] + self.MOST[k + 1:]
            self.assertEqual((self.answer(below), self.answer(above)), ([k + 1], [k + 1]))

    def test_first_of_several(self):
        self.assertEqual(self.answer([99000, 36999, 75000, 9999]), [2])
        self.assertEqual(self.answer([-2 ** 40, 2 ** 40, 0, -1]), [1])

    def test_refusals_in_order(self):
        self.assertEqual(last(good(0, [])), [-4])
        self.assertEqual(ask(sheet(PIN), good(1, [100000]), good(1, []), good(0, []), good(0, [1, 2]), good(4294967295, [1])),
                         [[1], [-4], [-4], [-6], [-6], [-4]])

    def test_without_dimensions(self):
        self.assertEqual(ask(sheet(["part a", "face x <", "end"]), good(0, []), good(0, [0])), [[1], [0], [-6]])


if __name__ == "__main__":
    unittest.main()
