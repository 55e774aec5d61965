"""The call wants."""

import unittest

from tests.helper import (Dice, FITTED, PIN, SLOT, Sizes, ask, assembly, block, gap, goes, hall, last, sheet, throw_fitting,
                          throw_model, wants)

TIGHT = [line.replace("10.3", "10.1") for line in SLOT]
ROW = ["use p pin", "use s slot", "clear s l p a 0", "clear p b s r 0"]


class Wants(unittest.TestCase):

    def check(self, parts, lines, answer):
        self.assertEqual(last(sheet(parts), assembly(["assembly a"] + lines + ["end"]), wants()), [answer], lines)

    def test_no_assembly(self):
        self.assertEqual(ask(wants(), sheet(PIN), wants()), [[-3], [1], [-3]])

    def test_none(self):
        self.check(PIN + SLOT, ROW, 0)
        self.check(PIN, ["use p pin"], 0)

    def test_at_the_bounds(self):
        for bounds, answer in (("+0 +0.5", 0), ("-0.0001 +0.5001", 0), ("+0.0001 +0.5", 1), ("+0 +0.4999", 1),
                               ("+0.1 +0.4", 1), ("-1 +1", 0), ("-1 -0.5", 1), ("+0 +0", 1), ("+0.6 +0.7", 1)):
            self.check(PIN + SLOT, ROW + [f"want p b s r {bounds}"], answer)
        for bounds, answer in (("-0.5 +0", 0), ("-0.4999 +0", 1), ("-0.5 -0.0001", 1)):
            self.check(PIN + SLOT, ROW + [f"want s r p b {bounds}"], answer)

    def test_first_of_several(self):
        kept = "want p b s r +0 +0.5"
        loose = "want p b s r +0 +0.4"
        self.check(PIN + SLOT, ROW + [kept] * 6, 0)
        self.check(PIN + SLOT, ROW + [kept, kept, loose, kept, loose], 3)
        self.check(PIN + SLOT, ROW + [loose, loose], 1)
        self.check(PIN + SLOT, ROW + [kept] * 5 + [loose], 6)

    def test_within_one_use(self):
        self.check(PIN, ["use p pin", "want p a p b +9.9 +10.1", "want p b p a -10.1 -9.9", "want p a p a +0 +0"], 0)
        self.check(PIN, ["use p pin", "want p a p b +9.9 +10.1", "want p b p a -10.0999 -9.9"], 2)
        self.check(PIN, ["use p pin", "want p a p a +0.0001 +1"], 1)
        self.check(PIN, ["use p pin", "want p a p a -1 -0.0001"], 1)

    def test_no_least_or_no_most(self):
        wide = "-107374.1824 +107374.1824"
        lines = ["use p pin", "use q pin", "use r pin", "clear p b q a 0"]
        self.check(PIN, lines + [f"want p b q a {wide}"], 1)
        self.check(PIN, lines + [f"want q a p b {wide}"], 1)
        self.check(PIN, lines + [f"want p a r a {wide}"], 1)
        self.check(PIN, lines + [f"want p a p b {wide}", f"want r a p a {wide}"], 2)

    def test_touches(self):
        lines = ["use p pin", "use q pin", "use r pin", "touch p b q a", "touch q b r a"]
        self.check(PIN, lines + ["want p a r b +29.7 +30.3", "want r b p a -30.3 -29.7", "want p b q a +0 +0"], 0)
        self.check(PIN, lines + ["want p a r b +29.7 +30.2999"], 1)
        self.check(PIN, lines + ["want p a r b +29.7001 +30.3"], 1)

    def test_not_together(self):
        self.check(PIN + TIGHT, ROW, 0)
        self.check(PIN + TIGHT, ROW + ["want p a p b +9 +11"], 1)
        # Another round than the want's own keeps it from being kept too.
        parts = PIN + TIGHT + block("bar", "1") + hall("room", "3 +-0.1")
        more = ["use p pin", "use s slot", "use b bar", "use m room", "clear s l p a 0", "clear p b s r 0", "clear m l b a 0",
                "clear b b m r 0", "want b b m r +0 +5", "want b a b b +1 +1"]
        self.check(parts, more, 1)
        self.check(parts[:5] + SLOT + parts[10:], more, 0)

    def test_several_ways(self):
        lines = ["use p pin", "use q pin", "use r pin", "use s slot", "clear s l p a 0", "clear p b q a 0",
                 "clear q b r a 0", "clear r b s r 1"]
        parts = PIN + hall("slot", "40 +-0.1")
        # All play together: 40.1 less three pins of 9.9 and 1.
        self.check(parts, lines + ["want p b q a +0 +9.4"], 0)
        self.check(parts, lines + ["want p b q a +0 +9.3999"], 1)
        self.check(parts, lines + ["want p b r a +9.9 +19.3"], 0)
        self.check(parts, lines + ["want p b r a +9.9001 +19.3"], 1)
        self.check(parts, lines + ["want r b s r +1 +10.4"], 0)
        self.check(parts, lines + ["want r b s r +1.0001 +10.4"], 1)


def within(want, bounds):
    return len(bounds) == 5 and want[2] <= bounds[2] and bounds[4] <= want[3]


class AgainstGap(unittest.TestCase):
    """Of larger assemblies a want is kept as goes and gap tell it."""

    def test_thrown_assemblies(self):
        dice = Dice(31)
        seen = {}
        for k in range(1000):
            sizes = Sizes(6, 6, 12 if dice.below(2) else 6, 1 + dice.below(6), 9, dice.below(3))
            model = throw_model(dice, sizes) if dice.below(2) else throw_fitting(dice, sizes, dice.below(9))
            calls = [goes()] + [gap(*want[0], *want[1]) for want in model.wants] + [wants()]
            given = ask(*model.calls(), *calls)[2:]
            kept = [given[0] == [0] and within(want, bounds) for want, bounds in zip(model.wants, given[1:])]
            expected = kept.index(False) + 1 if False in kept else 0
            self.assertEqual(given[-1], [expected], (model.sheet_lines(), model.assembly_lines()))
            key = (given[0] == [0], expected == 0)
            seen[key] = seen.get(key, 0) + 1
        self.assertGreater(min(seen.get(key, 0) for key in ((True, True), (True, False), (False, False))), 50, seen)

    def test_bounds_that_gap_tells(self):
        """A want with just the gap's bounds is kept where the assembly goes together, one a tick narrower isn't."""
        dice = Dice(12)
        count = 0
        for k in range(600):
            model = throw_fitting(dice, Sizes(5, 6, 12, 6, 9, dice.below(2)), dice.below(14))
            bounds = ask(*model.calls(), goes(), *[gap(*want[0], *want[1]) for want in model.wants])[2:]
            held = [(want[0], want[1], bound[2], bound[4]) for want, bound in zip(model.wants, bounds[1:]) if len(bound) == 5]
            if bounds[0] != [0] or not held:
                continue
            for changed, answer in self.changed(held):
                model.wants = changed
                self.assertEqual(ask(*model.calls(), wants())[2], [answer], (model.sheet_lines(), model.assembly_lines()))
            count += any(want[0][0] != want[1][0] for want in held)
        self.assertGreater(count, 50)

    def changed(self, held):
        """Wants as they are, and each made narrower at each end, with the answer to them."""
        yield held, 0
        for k, (first, second, least, most) in enumerate(held):
            for span in ((least + 1, most), (least, most - 1)):
                if span[0] <= span[1]:
                    yield held[:k] + [(first, second) + span] + held[k + 1:], k + 1


if __name__ == "__main__":
    unittest.main()
