"""The calls judge, price, best and idle."""

import unittest

from tests.helper import (Dice, FITTED, Model, PIN, SLOT, Sizes, ask, assembly, best, choices_of, gap, goes, hall, idle, judge,
                          last, price, sheet, sheet_text_answer, text, throw_fitting, throw_model, throw_offers, wants)

BAR = ["part bar"] + [f"face f{k} {'<>'[k % 2]}" for k in range(6)]
BAR += [f"dim f{k} f{k + 1} {k + 1}" for k in range(5)] + ["end"]
# Two uses of the pin, one of the slot, one of the bar; nothing between them.
LOOSE = ["assembly a", "use p pin", "use q pin", "use s slot", "use b bar", "end"]
HELD = [sheet(PIN + SLOT + BAR), assembly(LOOSE)]
ANY = [0, 0, -10, 10, 1]

# The pin in the slot, with a gap of 0.4 at most: the document's own offers.
NARROW = [line.replace("+0.5", "+0.4") for line in FITTED]
ROOM = [sheet(PIN + SLOT), assembly(NARROW)]
OFFERS = [[0, 0, -1000, 1000, 5], [0, 0, -500, 1000, 9], [1, 0, -1000, 1000, 4], [1, 0, -1000, 0, 6], [1, 0, -2500, 0, 1]]


def all_four(offers, choice=(0,)):
    """Each of the calls with offers."""
    return [judge(offers), price(list(choice), offers), best(-1, offers), idle(offers)]


class NoAssembly(unittest.TestCase):

    def test_ahead_of_all_else(self):
        for offers in ([], [ANY], [ANY] * 13):
            self.assertEqual(ask(*all_four(offers)), [[-3]] * 4)
            self.assertEqual(ask(sheet(PIN), *all_four(offers))[1:], [[-3]] * 4)


class Judge(unittest.TestCase):

    def check(self, offers, count):
        self.assertEqual(last(*HELD, judge(offers)), [count], offers)

    def check_none(self, offers):
        """They're no offers: whatever else is wrong, that's told."""
        self.assertEqual(ask(*HELD, *all_four(offers), price([], offers), price([9], offers), best(2 ** 40, offers))[2:],
                         [[-8]] * 7, offers)

    def of_bar(self, dims, each):
        return [[3, dim, -k, k, k] for dim in range(dims) for k in range(each)]

    def test_how_many(self):
        self.check_none([])
        self.check([ANY], 1)
        self.check(self.of_bar(4, 3), 4)
        self.check(self.of_bar(4, 3)[:-1], 4)
        self.check_none(self.of_bar(4, 3) + [[3, 4, 0, 0, 0]])
        self.check_none(self.of_bar(4, 3) + [[3, 3, 0, 0, 0]])
        self.check_none([ANY] * 13)

    def test_very_many(self):
        self.assertEqual(last(*HELD, judge([ANY] * 3800)), [-8])
        self.assertEqual(last(*HELD, idle([[2 ** 32 - 1, 2 ** 32 - 1, 2 ** 40, -2 ** 40, 2 ** 32 - 1]] * 3800)), [-8])

    def test_of_one_dimension(self):
        self.check([ANY] * 2, 1)
        self.check([ANY] * 3, 1)
        self.check_none([ANY] * 4)
        self.check(self.of_bar(2, 3), 2)
        self.check_none(self.of_bar(2, 4))
        self.check_none(self.of_bar(1, 1) + [ANY] * 4)

    def test_dimensions(self):
        self.check(self.of_bar(4, 1), 4)
        self.check_none(self.of_bar(5, 1))
        self.check(self.of_bar(2, 1) + [ANY, [2, 0, 0, 0, 0]], 4)
        self.check_none(self.of_bar(3, 1) + [ANY, [2, 0, 0, 0, 0]])

    def test_in_any_order_of_dimensions(self):
        self.check([[3, 4, 0, 0, 0], [3, 4, 1, 1, 0], [0, 0, 0, 0, 0], [3, 1, 0, 0, 0], [2, 0, 0, 0, 0]], 4)

    def test_not_one_behind_another(self):
        first = [3, 0, 0, 0, 0]
        second = [3, 1, 0, 0, 0]
        self.check([first, first, second], 2)
        self.check_none([first, second, first])
        self.check_none([second, first, first, second])
        self.check_none([ANY, first, second, ANY])

    def test_first_use_of_the_part(self):
        self.check_none([[1, 0, 0, 0, 0]])
        self.check_none([ANY, [1, 0, 0, 0, 0]])
        self.assertEqual(last(HELD[0], assembly(LOOSE[:1] + LOOSE[2:]), judge([ANY])), [1])
        self.assertEqual(last(HELD[0], assembly(["assembly a", "use b bar", "use s slot", "use q pin", "use p pin", "end"]),
                              judge([[2, 0, 0, 0, 0]])), [1])
        self.assertEqual(last(HELD[0], assembly(["assembly a", "use b bar", "use s slot", "use q pin", "use p pin", "end"]),
                              judge([[3, 0, 0, 0, 0]])), [-8])

    def test_none_such(self):
        for use, dim in ((4, 0), (5, 0), (2 ** 32 - 1, 0), (0, 1), (2, 1), (3, 5), (3, 2 ** 32 - 1), (4, 4)):
            self.check_none([[use, dim, 0, 0, 0]])
        self.check([[3, 4, 0, 0, 0]], 1)

    def test_part_without_dimensions(self):
        held = [sheet(["part a", "face x <", "end"]), assembly(["assembly a", "use u a", "end"])]
        self.assertEqual(ask(*held, judge([[0, 0, 0, 0, 0]]), judge([]))[2:], [[-8], [-8]])

    def test_limits(self):
        # The pin's nominal size is 100,000.
        for lo, hi in ((0, 0), (-99999, -99999), (-99999, 2 ** 30), (2 ** 30, 2 ** 30), (5, 5), (-7, -6)):
            self.check([[0, 0, lo, hi, 0]], 1)
        for lo, hi in ((1, 0), (-100000, 0), (-100000, -100000), (0, 2 ** 30 + 1), (2 ** 30 + 1, 2 ** 30 + 1), (-5, -6),
                       (-2 ** 40, 2 ** 40), (2 ** 40, -2 ** 40), (2 ** 40, 2 ** 40), (-2 ** 40, -2 ** 40)):
            self.check_none([[0, 0, lo, hi, 0]])

    def test_limits_of_a_great_size(self):
        held = [sheet(hall("slot", "214748.3647")), assembly(["assembly a", "use s slot", "end"])]
        for lo, hi, answer in ((-2 ** 30, 2 ** 30, 1), (-2 ** 30 - 1, 0, -8), (0, 2 ** 30 + 1, -8), (-2 ** 30, -2 ** 30, 1)):
            self.assertEqual(last(*held, judge([[0, 0, lo, hi, 0]])), [answer])

    def test_prices(self):
        self.check([[0, 0, 0, 0, 2147483647]], 1)
        for cost in (2147483648, 2 ** 32 - 1):
            self.check_none([[0, 0, 0, 0, cost]])

    def test_one_bad_among_good_ones(self):
        good = self.of_bar(3, 2)
        for bad in ([3, 9, 0, 0, 0], [1, 0, 0, 0, 0], [2, 0, 1, 0, 0], [2, 0, 0, 0, 2 ** 31], [9, 0, 0, 0, 0]):
            for place in (0, 2, 4, 6):
                self.check_none(good[:place] + [bad] + good[place:])


class Price(unittest.TestCase):

    def check(self, held, offers, expected):
        for choice, answer in expected.items():
            self.assertEqual(last(*held, price(list(choice), offers)), [answer], choice)

    def test_document(self):
        self.check(ROOM, OFFERS, {(0, 2): -5, (0, 3): 11, (0, 4): -5, (1, 2): -5, (1, 3): 15, (1, 4): -5})

    def test_no_choice(self):
        self.check(ROOM, OFFERS, {
            (): -9, (0,): -9, (3,): -9, (0, 3, 3): -9, (0, 1, 3): -9, (3, 0): -9, (0, 0): -9, (0, 1): -9, (2, 3): -9,
            (0, 5): -9, (5, 3): -9, (0, 2 ** 32 - 1): -9, (2 ** 32 - 1, 3): -9})

    def test_long_choice(self):
        self.assertEqual(last(*ROOM, price([0, 3] * 9000, OFFERS)), [-9])

    def test_refusals_in_order(self):
        self.check(ROOM, [], {(): -8, (0, 3): -8})
        self.check(ROOM, OFFERS + OFFERS[:1], {(0, 3): -8, (0, 2): -8, (): -8})
        # A choice that's none of them is told though none at all does.
        self.check(ROOM, OFFERS[2:3], {(1,): -9, (): -9, (0,): -5})

    def test_greatest_prices(self):
        offers = [[3, dim, 0, 0, 2147483647] for dim in range(4)]
        self.assertEqual(ask(*HELD, price([0, 1, 2, 3], offers), best(-1, offers), best(4 * 2147483647 - 1, offers),
                             best(4 * 2147483647, offers))[2:],
                         [[8589934588], [8589934588, 0, 1, 2, 3], [8589934588, 0, 1, 2, 3], [-5]])

    def test_not_together(self):
        lines = [line for line in FITTED if not line.startswith("want")]
        held = [sheet(PIN + SLOT), assembly(lines)]
        # The slot is 102,000 at least as it is.
        self.check(held, [[0, 0, 0, 2000, 7], [0, 0, 0, 2001, 3]], {(0,): 7, (1,): -5})
        self.check(held, [[1, 0, -2000, 0, 7], [1, 0, -2001, 0, 3]], {(0,): 7, (1,): -5})

    def test_offers_mend_what_does_not_go(self):
        tight = [line.replace("10.3", "10.1") for line in SLOT]
        held = [sheet(PIN + tight), assembly(NARROW)]
        self.assertEqual(ask(*held, goes(), wants())[2:], [[1, 1000, 1, 2], [1]])
        self.check(held, [[0, 0, -1000, 0, 3]], {(0,): 3})
        self.check(held, [[0, 0, -1000, 1, 3]], {(0,): -5})

    def test_for_all_uses_of_the_part(self):
        parts = PIN + hall("slot", "30")
        lines = ["assembly a", "use p pin", "use s slot", "use q pin", "use r pin", "touch s l p a", "touch p b q a",
                 "touch q b r a", "clear r b s r 0", "want r b s r +0 +0.9"]
        held = [sheet(parts), assembly(lines + ["end"])]
        self.check(held, [[0, 0, -3000, 0, 1], [0, 0, -3001, 0, 2], [0, 0, 0, 1, 4]], {(0,): 1, (1,): -5, (2,): -5})
        self.check(held, [[0, 0, -3000, -3000, 1], [0, 0, 0, 0, 2]], {(0,): 1, (1,): 2})

    def test_dimensions_of_one_part(self):
        lines = ["assembly a", "use b bar", "want b f0 b f3 +5.9 +6.2", "end"]
        held = [sheet(BAR), assembly(lines)]
        offers = [[0, 0, -500, 1000, 10], [0, 0, -1000, 1000, 1], [0, 2, 0, 1000, 20], [0, 2, -500, 1000, 2], [0, 4, -99, 99, 100]]
        self.check(held, offers, {(0, 2, 4): 130, (0, 3, 4): 112, (1, 2, 4): 121, (1, 3, 4): -5})

    def test_against(self):
        # From f3 to f0 the dimensions are gone against: the greatest sizes make the least.
        lines = ["assembly a", "use b bar", "want b f3 b f0 -6.2 -5.9", "end"]
        held = [sheet(BAR), assembly(lines)]
        self.check(held, [[0, 1, -1000, 2000, 1], [0, 1, -1001, 0, 2], [0, 1, 0, 2001, 3]], {(0,): 1, (1,): -5, (2,): -5})


class Best(unittest.TestCase):

    def check(self, held, offers, expected):
        for above, answer in expected.items():
            self.assertEqual(last(*held, best(above, offers)), answer, above)

    def test_edges_of_above(self):
        self.check(ROOM, OFFERS, {
            -1: [11, 0, 3], -2 ** 40: [11, 0, 3], 0: [11, 0, 3], 10: [11, 0, 3], 11: [15, 1, 3], 12: [15, 1, 3],
            14: [15, 1, 3], 15: [-5], 16: [-5], 2 ** 40: [-5]})

    def test_price_0(self):
        self.check(HELD, [[0, 0, 0, 0, 0]], {-1: [0, 0], -2: [0, 0], 0: [-5]})

    def test_first_of_one_price(self):
        offers = [[0, 0, -3, 3, 2], [0, 0, -2, 2, 1], [0, 0, -1, 1, 2], [2, 0, 0, 0, 3], [2, 0, 0, 1, 2], [2, 0, 0, 2, 3]]
        self.check(HELD, offers, {-1: [3, 1, 4], 3: [4, 0, 4], 4: [5, 0, 3], 5: [-5]})

    def test_first_that_does(self):
        # Of one price the first choices don't do.
        offers = [[0, 0, -1001, 1000, 5], [0, 0, -1000, 1000, 5], [0, 0, -500, 1000, 5], [1, 0, -1000, 1000, 4], [1, 0, -1000, 0, 4]]
        self.check(ROOM, offers, {-1: [9, 1, 4], 8: [9, 1, 4], 9: [-5]})

    def test_none_does(self):
        self.check(ROOM, OFFERS[2:3], {-1: [-5], -2 ** 40: [-5]})

    def test_rising(self):
        """From -1 on each price that some choice has is told once."""
        offers = [[3, dim, 0, k, (k * k + 1) * (dim + 1) * 5] for dim in range(4) for k in range(3)]
        costs = {}
        for choice in choices_of(offers):
            costs.setdefault(sum(offers[number][4] for number in choice), choice)
        above = -1
        for cost in sorted(costs):
            self.assertEqual(last(*HELD, best(above, offers)), [cost] + costs[cost])
            above = cost
        self.assertEqual(last(*HELD, best(above, offers)), [-5])

    def test_dimension_no_gap_looks_at(self):
        self.check(HELD, [[3, 1, -5, 5, 8], [3, 1, 0, 0, 9]], {-1: [8, 0], 8: [9, 1], 9: [-5]})


class Idle(unittest.TestCase):

    def check(self, held, offers, answer):
        self.assertEqual(last(*held, idle(offers)), answer)

    def test_some(self):
        self.check(ROOM, OFFERS, [2, 0, 0, 1, 0, 1])

    def test_none(self):
        self.check(HELD, [[0, 0, 0, 0, 0]], [0, 0])
        self.check(ROOM, OFFERS[:2] + OFFERS[3:4], [0, 0, 0, 0])
        self.check(HELD, [[3, dim, -k, k, 0] for dim in range(4) for k in range(3)], [0] + [0] * 12)

    def test_all(self):
        self.check(ROOM, OFFERS[:3], [3, 1, 1, 1])
        self.check(ROOM, OFFERS[2:3], [1, 1])
        # Where the assembly doesn't go together for another reason, no offer helps.
        lines = ["assembly a", "use p pin", "use q pin", "use s slot", "clear p b q a 0", "clear q b p a 0", "end"]
        self.check([HELD[0], assembly(lines)], [[2, 0, 0, 0, 0], [2, 0, 1, 1, 0]], [2, 1, 1])

    def test_of_use_with_one_other_alone(self):
        lines = ["assembly a", "use b bar", "want b f0 b f2 +2.9 +3.1", "end"]
        offers = [[0, 0, -1000, 0, 1], [0, 0, 0, 1000, 1], [0, 0, -1001, 0, 1], [0, 1, -1000, 0, 1], [0, 1, 0, 1000, 1],
                  [0, 1, -900, 1, 1]]
        self.check([sheet(BAR), assembly(lines)], offers, [2, 0, 0, 1, 0, 0, 1])
        self.check([sheet(BAR), assembly(lines)], [offers[0]] + offers[3:4], [2, 1, 1])


class NothingChanged(unittest.TestCase):

    def test_sheet_and_assembly(self):
        look = [goes(), gap(0, 1, 1, 1), wants(), gap(0, 0, 0, 1), text()]
        calls = [judge(OFFERS), price([1, 3], OFFERS), best(-1, OFFERS), idle(OFFERS), price([0, 2], OFFERS),
                 price([9], OFFERS), judge([]), best(99, OFFERS)]
        before = ask(*ROOM, *look)[2:]
        self.assertEqual(before, [[0], [0, 1, 0, 1, 5000], [1], [0, 1, 99000, 1, 101000], sheet_text_answer(PIN + SLOT)])
        for call in calls:
            given = ask(*ROOM, *look, call, *look, call, *look)[2:]
            self.assertEqual((given[:5], given[6:11], given[12:]), (before, before, before))
            self.assertEqual(given[5], given[11])

    def test_new_assembly_new_answers(self):
        given = ask(*ROOM, best(-1, OFFERS), assembly(FITTED), best(-1, OFFERS), idle(OFFERS), sheet(PIN), best(-1, OFFERS))
        self.assertEqual(given[2:], [[11, 0, 3], [2], [9, 0, 2], [1, 0, 0, 0, 0, 1], [1], [-3]])


class Promises(unittest.TestCase):
    """Larger assemblies, each choice against the assembly with its limits written into the sheet."""

    def throw(self, dice):
        sizes = Sizes(5, 5, 8, 2, 9, 1)
        model = throw_fitting(dice, sizes, dice.below(16)) if dice.below(4) else throw_model(dice, sizes)
        offers = throw_offers(dice, model, 3, 3)
        chosen = model.with_choice(dice.pick(choices_of(offers)), offers)
        bounds = ask(*chosen.calls(), *[gap(*want[0], *want[1]) for want in model.wants])[2:]
        # Wants just at the bounds of some choice: with others they are kept or not.
        held = [(want[0], want[1], bound[2], bound[4]) for want, bound in zip(model.wants, bounds) if len(bound) == 5]
        return Model(model.parts, model.uses, model.relations, held), offers

    def does(self, model):
        return ask(*model.calls(), goes(), wants())[2:] == [[0], [0]]

    def test_choices(self):
        dice = Dice(60)
        seen = [0, 0, 0]
        for k in range(150):
            model, offers = self.throw(dice)
            choices = choices_of(offers)
            do = [choice for choice in choices if self.does(model.with_choice(choice, offers))]
            costs = [sum(offers[number][4] for number in choice) for choice in do]
            context = (model.sheet_lines(), model.assembly_lines(), offers)
            given = ask(*model.calls(), judge(offers), idle(offers), *[price(choice, offers) for choice in choices])[2:]
            unused = [int(all(number not in choice for choice in do)) for number in range(len(offers))]
            self.assertEqual(given[:2], [[len(choices[0])], [sum(unused)] + unused], context)
            self.assertEqual([choice for choice, answer in zip(choices, given[2:]) if answer != [-5]], do, context)
            self.assertEqual([answer[0] for answer in given[2:] if answer != [-5]], costs, context)
            above = -1
            while above < max(costs, default=-1):
                cost = min(other for other in costs if other > above)
                self.assertEqual(ask(*model.calls(), best(above, offers))[2], [cost] + do[costs.index(cost)], context)
                above = cost
            self.assertEqual(ask(*model.calls(), best(above, offers))[2], [-5], context)
            seen[(len(do) > 0) + (len(do) == len(choices))] += 1
        self.assertGreater(min(seen), 15, seen)

    def test_narrower_limits(self):
        dice = Dice(61)
        narrowed = 0
        for k in range(250):
            model, offers = self.throw(dice)
            answer = ask(*model.calls(), best(-1, offers))[2]
            if answer == [-5]:
                continue
            for number in answer[1:]:
                lo, hi = offers[number][2:4]
                low = lo + dice.below(hi - lo + 1)
                narrow = offers[number][:2] + [low, low + dice.below(hi - low + 1)] + offers[number][4:]
                changed = offers[:number] + [narrow] + offers[number + 1:]
                self.assertEqual(ask(*model.calls(), price(answer[1:], changed))[2], answer[:1],
                                 (model.sheet_lines(), model.assembly_lines(), changed))
                narrowed += narrow != offers[number]
        self.assertGreater(narrowed, 50)


if __name__ == "__main__":
    unittest.main()
