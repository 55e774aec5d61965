"""The call goes: whether it goes together, and the first round that is too long."""

import itertools
import unittest

from tests.helper import Dice, FITTED, PIN, SLOT, ask, assembly, block, face_places, goes, hall, last, sheet


class Refusals(unittest.TestCase):

    def test_no_assembly(self):
        self.assertEqual(ask(goes(), sheet(PIN + SLOT), goes()), [[-3], [2], [-3]])

    def test_none_behind_a_new_sheet(self):
        self.assertEqual(ask(sheet(PIN + SLOT), assembly(FITTED), goes(), sheet(PIN + SLOT), goes()),
                         [[2], [2], [0], [2], [-3]])


class Rounds(unittest.TestCase):

    def check(self, parts, lines, answer):
        self.assertEqual(last(sheet(parts), assembly(["assembly a"] + lines + ["end"]), goes()), answer)

    def test_without_relations(self):
        self.check(PIN, ["use p pin"], [0])
        self.check(PIN, ["use p pin", "use q pin"], [0])

    def test_without_a_round(self):
        self.check(PIN, ["use p pin", "use q pin", "use r pin", "touch p b q a", "clear q b r a 100"], [0])

    def test_length_0_goes(self):
        parts = block("pin", "10 +0.1 -0.1") + hall("slot", "10.2 +-0.1")
        lines = ["use p pin", "use s slot", "clear s l p a 0", "clear p b s r 0"]
        self.check(parts, lines, [0])
        self.check(parts, lines[:3] + ["clear p b s r 0.0001"], [1, 1, 1, 2])

    def test_clears_are_added(self):
        lines = ["use p pin", "use s slot", "clear s l p a 0.2", "clear p b s r 0.3"]
        self.check(PIN + SLOT, lines, [1, 101000 + 2000 + 3000 - 102000, 1, 2])

    def test_touches_leave_no_play(self):
        # Touching at both ends is too long both ways as soon as one size may differ.
        lines = ["use p pin", "use s slot", "touch s l p a", "touch p b s r"]
        self.check(block("pin", "10") + hall("slot", "10"), lines, [0])
        self.check(block("pin", "10 +0.1 +0") + hall("slot", "10"), lines, [1, 1000, 1, 2])
        self.check(block("pin", "10 +0 -0.1") + hall("slot", "10"), lines, [1, 1000, -1, -2])
        self.check(block("pin", "10") + hall("slot", "10 +0.2 +0"), lines, [1, 2000, -1, -2])

    def test_along_ahead_of_against(self):
        lines = ["use p pin", "use s slot", "touch s l p a", "touch p b s r"]
        self.check(block("pin", "10 +-0.1") + hall("slot", "10"), lines, [1, 1000, 1, 2])

    def test_clears_are_not_gone_against(self):
        lines = ["use p pin", "use s slot", "clear s l p a 0", "touch p b s r"]
        self.check(block("pin", "5") + hall("slot", "10"), lines, [0])

    def test_lesser_relation_first(self):
        lines = ["use p pin", "use s slot", "clear p b s r 0", "clear s l p a 0", "clear s l p a 3"]
        self.check(block("pin", "11") + hall("slot", "10"), lines, [1, 10000, 1, 2])
        self.check(block("pin", "8") + hall("slot", "10"), lines, [1, 10000, 1, 3])

    def test_fewest_relations_first(self):
        parts = block("pin", "6") + hall("slot", "11")
        lines = ["use p pin", "use q pin", "use s slot", "clear s l p a 0", "clear p b q a 0", "clear q b s r 0"]
        self.check(parts, lines, [1, 10000, 1, 2, 3])
        self.check(parts, lines + ["clear q b s r 1", "clear s l q a 6"], [1, 10000, 3, 5])

    def test_begins_with_the_least_relation(self):
        parts = block("pin", "6") + hall("slot", "11")
        lines = ["use p pin", "use q pin", "use s slot", "clear q b s r 0", "clear p b q a 0", "clear s l p a 0"]
        self.check(parts, lines, [1, 10000, 1, 3, 2])

    def test_six_uses(self):
        parts = block("pin", "2 +-0.01") + hall("slot", "10 +-0.01")
        uses = [f"use u{k} pin" for k in range(5)] + ["use s slot"]
        lines = uses + ["touch s l u0 a"] + [f"touch u{k} b u{k + 1} a" for k in range(4)] + ["clear u4 b s r 0"]
        self.check(parts, lines, [1, 600, 1, 2, 3, 4, 5, 6])
        loose = block("pin", "2 +-0.01") + hall("slot", "10.1 +-0.05")
        self.check(loose, lines, [0])
        self.check(loose, lines[:-1] + ["touch u4 b s r"], [1, 2000, -1, -6, -5, -4, -3, -2])

    def test_two_uses_of_one_part_differ(self):
        parts = block("pin", "10 +-0.1")
        part = ["part bar", "face a <", "face b >", "face c <", "face d >", "dim a b 10 +-0.1", "dim a c 10", "dim a d 20", "end"]
        lines = ["use p bar", "use q bar", "touch p b q a", "touch p d q c"]
        # The bar from a to c is 10 always, from b to d of another one 9.9 to 10.1.
        self.check(parts + part, lines, [1, 1000, 1, -2])

    def test_a_use_is_come_to_once(self):
        # There through q at its longest and back at its shortest would be one part of two sizes.
        lines = ["use p pin", "use q pin", "use r pin", "touch p b q a", "touch q b r a"]
        self.check(block("pin", "10 +-1"), lines, [0])


def thrown_relations(dice, parts, uses):
    """Relations at hazard, or once round all uses with a few more."""
    order = sorted(range(len(uses)), key=lambda use: dice.below(1000))
    pairs = [(use, order[k - 1]) for k, use in enumerate(order)] if dice.below(2) else []
    while len(pairs) < 2 or dice.below(3):
        first = dice.below(len(uses))
        pairs.append((first, (first + 1 + dice.below(len(uses) - 1)) % len(uses)))
    relations = []
    for pair in pairs[:12]:
        ends = []
        for use, side in zip(pair, (1, 0)):
            sides = parts[uses[use]][0]
            ends.append((use, dice.pick([face for face in range(len(sides)) if sides[face] == side])))
        relations.append((ends[0], ends[1], dice.below(3) == 0, dice.below(3)))
    return relations


def thrown_assembly(dice):
    """A sheet's and an assembly's lines at hazard; their parts' dimensions, uses and relations."""
    parts = []
    lines = []
    for k in range(2 + dice.below(2)):
        count = 2 + dice.below(3)
        sides = [dice.below(2) for face in range(count)]
        sides[0] = 0
        sides[1] = 1
        dims = []
        for face in range(1, count):
            pair = [face, dice.below(face)]
            if dice.below(2):
                pair.reverse()
            size = 4 + dice.below(3)
            play = dice.pick((0, 0, 1))
            dims.append((pair[0], pair[1], size, size + play))
        parts.append((sides, dims))
        lines += [f"part p{k}"] + [f"face f{face} {'<>'[side]}" for face, side in enumerate(sides)]
        lines += [f"dim f{dim[0]} f{dim[1]} {dim[2]} +{dim[3] - dim[2]} +0" for dim in dims] + ["end"]
    uses = [dice.below(len(parts)) for use in range(2 + dice.below(5))]
    relations = thrown_relations(dice, parts, uses)
    text = ["assembly a"] + [f"use u{k} p{part}" for k, part in enumerate(uses)]
    for first, second, touches, ticks in relations:
        names = f"u{first[0]} f{first[1]} u{second[0]} f{second[1]}"
        text.append(f"touch {names}" if touches else f"clear {names} {ticks}")
    return lines, text + ["end"], parts, uses, relations


def goes_with(parts, uses, relations, sizes):
    """Whether true sizes have a placement: relations push uses to the right until none pushes any more."""
    faces = [face_places(parts[part][1], own, 0) for part, own in zip(uses, sizes)]
    at = [0] * len(uses)
    for turn in range(len(uses) + 1):
        still = True
        for first, second, touches, ticks in relations:
            pushes = [(first, second, 0 if touches else ticks)] + ([(second, first, 0)] if touches else [])
            for a, b, least in pushes:
                needed = at[a[0]] + faces[a[0]][a[1]] + least - faces[b[0]][b[1]]
                if at[b[0]] < needed:
                    at[b[0]] = needed
                    still = False
        if still:
            return True
    return False


def all_sizes(parts, uses):
    """All good true sizes, use by use."""
    choices = []
    for part in uses:
        choices.append(list(itertools.product(*[range(dim[2], dim[3] + 1) for dim in parts[part][1]])))
    return itertools.product(*choices)


def longest(parts, uses, use, f, g):
    dims = parts[uses[use]][1]
    return max(face_places(dims, sizes, f)[g] for sizes in itertools.product(*[(dim[2], dim[3]) for dim in dims]))


def first_round(parts, uses, relations):
    """The first round that is too long, as the words tell it, by going through all rows."""
    steps = []
    for number, (first, second, touches, ticks) in enumerate(relations):
        steps.append((number + 1, first, second, 0 if touches else ticks))
        if touches:
            steps.append((-number - 1, second, first, 0))
    for count in range(2, len(uses) + 1):
        for row in rows_of(steps, count):
            length = sum(step[3] for step in row)
            for before, step in zip(row[-1:] + row[:-1], row):
                length += longest(parts, uses, step[1][0], before[2][1], step[1][1])
            if length > 0:
                return [1, length * 10000] + [step[0] for step in row]
    return [0]


def rows_of(steps, count, row=()):
    """All closed rows of so many steps in the order of their marks."""
    if len(row) == count:
        if row[-1][2][0] == row[0][1][0]:
            yield row
        return
    for step in steps:
        follows = not row or row[-1][2][0] == step[1][0]
        if follows and step[2][0] not in [before[2][0] for before in row]:
            yield from rows_of(steps, count, row + (step,))


class ByForce(unittest.TestCase):

    def test_thrown_assemblies(self):
        dice = Dice(21)
        seen = {}
        for k in range(700):
            lines, text, parts, uses, relations = thrown_assembly(dice)
            given = ask(sheet(lines), assembly(text), goes())
            self.assertEqual(given[:2], [[len(parts)], [len(uses)]], (lines, text))
            self.assertEqual(given[2], first_round(parts, uses, relations), (lines, text))
            seen[len(given[2])] = seen.get(len(given[2]), 0) + 1
        self.assertGreater(seen[1], 100)
        self.assertGreater(min(seen.get(count, 0) for count in (4, 5, 6, 7, 8)), 10, seen)

    def test_goes_is_what_all_good_sizes_do(self):
        dice = Dice(4)
        counts = [0, 0]
        for k in range(700):
            lines, text, parts, uses, relations = thrown_assembly(dice)
            total = 1
            for part in uses:
                for dim in parts[part][1]:
                    total *= dim[3] - dim[2] + 1
            if total > 256:
                continue
            together = all(goes_with(parts, uses, relations, sizes) for sizes in all_sizes(parts, uses))
            given = last(sheet(lines), assembly(text), goes())
            self.assertEqual(given == [0], together, (lines, text))
            counts[together] += 1
        self.assertGreater(min(counts), 50)


if __name__ == "__main__":
    unittest.main()
