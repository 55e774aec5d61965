"""The interface: how calls and answers stand in their lists, and that nothing is changed or kept."""

import unittest

from fitparts.board import answers
from tests.helper import (FITTED, PIN, SLOT, ask, assembly, best, between, chain, codes, find, gap, gapof, goes, good, idle,
                          joined, judge, price, sheet, sheet_text_answer, text, wants, with_sizes)

OFFERS = [[0, 0, -1000, 0, 5], [0, 0, -500, 0, 9], [1, 0, -1000, 1000, 4], [1, 0, -1000, 0, 6], [1, 0, -2500, 0, 1]]
TIGHT = [line.replace("10.3", "10.1") for line in SLOT]


def refuse(*arguments):
    raise AssertionError("what is handed in was changed")


class Sealed(list):
    """A list that tells when it is changed, be it for a while."""

    __setitem__ = __delitem__ = __iadd__ = __imul__ = refuse
    append = extend = insert = pop = remove = clear = sort = reverse = refuse


def assembly_calls():
    """Each of the calls that need an assembly, taken and refused."""
    return [goes(), with_sizes([101000, 100000]), with_sizes([100000, 102000]), with_sizes([1]), with_sizes([1, 2]),
            gap(0, 1, 1, 1), gap(0, 1, 2, 1), gapof(0, 1, 1, 1, [5, -5]), gapof(0, 1, 1, 1, [-5, 5]), gapof(0, 1, 1, 1, []),
            gapof(0, 9, 1, 1, []), wants(), judge(OFFERS), judge([]), price([0, 2], OFFERS), price([1, 4], OFFERS),
            price([2, 0], OFFERS), price([], []), best(-1, OFFERS), best(9, OFFERS), best(2 ** 40, OFFERS), best(0, []),
            idle(OFFERS), idle([]), idle(OFFERS * 3)]


def all_calls():
    """Each of the calls, taken and refused."""
    return assembly_calls() + [sheet(PIN + TIGHT), assembly(FITTED)] + assembly_calls() + [text(), goes(), sheet(PIN + TIGHT), text(), find("slot"), find("x"), between(0, 0, 1), between(9, 0, 0),
            chain(1, 1, 0), chain(0, 0, 9), good(0, [100000]), good(0, []), good(2, []), assembly("x"), goes(),
            assembly(FITTED), goes(), sheet("x"), assembly(FITTED[:3]), goes(), text(), sheet("x" * 16385),
            assembly("x" * 16385)]


class Lists(unittest.TestCase):

    def test_number_by_number(self):
        part = codes("part a\nface x <\nend\n")
        calls = [1, 0, 1, 20] + part + [2, 0, 0, 3, 0, 1, 1, 97, 3, 0, 1, 0]
        calls += [4, 3, 0, 0, 0, 0, 5, 3, 0, 0, 0, 0, 6, 1, 0, 1, 0, 8, 0, 0]
        expected = [1, 1, 21, 20] + part + [3, 0, 1, 0, 1, -5, 3, 0, 0, 0, 1, 0, 1, 0, 1, -3]
        self.assertEqual(answers(calls), expected)

    def test_a_fault_stands_behind_its_refusal(self):
        self.assertEqual(answers([1, 0, 1, 1, 10]), [3, -2, 1, 0])

    def test_answers_are_whole_numbers(self):
        given = answers([number for call in all_calls() for number in call])
        self.assertIs(type(given), list)
        self.assertEqual({type(number) for number in given}, {int})

    def test_four_hundred_calls(self):
        calls = sheet(PIN + TIGHT) + assembly(FITTED) + goes() * 398
        self.assertEqual(answers(calls), [1, 2, 1, 2] + [4, 1, 1000, 1, 2] * 398)

    def test_lists_of_later_calls(self):
        begin = sheet(PIN + TIGHT) + assembly(FITTED)
        offer = [5, 0, 0, -1000, 0, 7]
        calls = [13, 0, 0, 13, 0, 1] + offer + [14, 0, 1, 0, 14, 0, 1, 1, 0, 14, 0, 2, 1, 0] + offer + [14, 0, 2, 0] + offer
        calls += [15, 1, -1, 1] + offer + [15, 1, 7, 1] + offer + [15, 1, 0, 0, 16, 0, 1] + offer + [16, 0, 0]
        calls += [9, 0, 1, 0, 10, 4, 0, 0, 0, 0, 0, 11, 4, 0, 0, 0, 0, 1, 0, 12, 0, 0]
        expected = [1, -8, 1, 1, 1, -8, 1, -8, 1, 7, 1, -9, 2, 7, 0, 1, -5, 1, -8, 2, 0, 0, 1, -8, 1, -6, 5, 0, 1, 0, 1, 0, 1, -6,
                    1, 1]
        self.assertEqual(answers(begin + calls), [1, 2, 1, 2] + expected)

    def test_one_of_each_refusal(self):
        given = ask(sheet("x" * 16385), sheet("x"), goes(), between(0, 0, 0), find("x"), good(0, []))
        self.assertEqual(given, [[-1], [-2, 1, 0], [-3], [-4], [-5], [-4]])
        given = ask(sheet(PIN + TIGHT), assembly(FITTED), with_sizes([]), with_sizes([1, 2]), judge([]), price([], OFFERS))
        self.assertEqual(given[2:], [[-6], [-7], [-8], [-9]])

    def test_as_many_numbers_as_may_be(self):
        self.assertEqual(ask(sheet(PIN), find("x" * 23000)), [[1], [-5]])
        self.assertEqual(ask(good(0, [0] * 23000)), [[-4]])
        self.assertEqual(ask(sheet("\n" * 16384)), [[-2, 1, 0]])
        self.assertEqual(ask(assembly("assembly " * 1800)), [[-2, 1, 0]])


class NothingChanged(unittest.TestCase):

    def test_handed_in(self):
        calls = [number for call in all_calls() for number in call]
        sealed = Sealed(calls)
        first = answers(sealed)
        self.assertEqual(list(sealed), calls)
        self.assertEqual(answers(sealed), first)
        self.assertEqual(answers(calls), first)

    def test_nothing_is_kept(self):
        ask(sheet(PIN + SLOT), assembly(FITTED), *assembly_calls())
        self.assertEqual(ask(*assembly_calls()), [[-3]] * len(assembly_calls()))
        self.assertEqual(ask(text(), find("pin"), goes()), [[0], [-5], [-3]])

    def test_answer_is_a_list_of_its_own(self):
        calls = sheet(PIN) + text()
        first = answers(calls)
        expected = list(first)
        first.reverse()
        self.assertEqual(answers(calls), expected)


class Refused(unittest.TestCase):
    """Refused calls leave the sheet and the assembly as they were."""

    REFUSED = [sheet("x"), sheet(PIN + PIN), sheet("x" * 16385), sheet(PIN[:-1]), assembly("x"), assembly(FITTED[:-1]),
               assembly(FITTED + ["end"]), assembly("x" * 16385), assembly(["assembly b", "use p x", "end"]), find("x"),
               between(2, 0, 0), between(0, 2, 0), chain(0, 0, 2), good(2, [1]), good(0, [1, 2]), with_sizes([1]),
               with_sizes([1, 2]), gap(0, 0, 0, 2), gapof(0, 0, 2, 0, [1, 2]), gapof(0, 0, 0, 0, [1]),
               gapof(0, 0, 0, 0, [2, 1]), judge([]), judge(OFFERS[:1] * 4), price([0], OFFERS), price([0, 4], OFFERS),
               price([0, 2], []), best(99, OFFERS), best(-1, []), idle([])]

    def test_each(self):
        held = [sheet(PIN + TIGHT), assembly(FITTED)]
        for call in self.REFUSED:
            given = ask(*held, call, text(), find("slot"), goes(), gap(0, 1, 1, 1), wants(), best(-1, OFFERS))
            self.assertLess(given[2][0], 0)
            self.assertEqual(given[3:], [sheet_text_answer(PIN + TIGHT), [1, 2, 1], [1, 1000, 1, 2], [0, 1, 0, 1, 3000], [1],
                                         [9, 0, 2]])

    def test_each_is_told_alone(self):
        for call in self.REFUSED:
            given = ask(sheet(PIN + TIGHT), assembly(FITTED), call)[2]
            self.assertEqual(len(given), 3 if given[0] == -2 else 1)

    def test_all_on_a_new_board(self):
        given = ask(*self.REFUSED, text(), goes())
        self.assertEqual(given[-2:], [[0], [-3]])

    def test_a_faulty_sheet_with_good_parts_ahead(self):
        given = ask(sheet(PIN), sheet(joined(SLOT) + "x"), text(), find("slot"))
        self.assertEqual(given, [[1], [-2, 1, len(joined(SLOT))], sheet_text_answer(PIN), [-5]])

    def test_assembly_behind_a_new_sheet(self):
        given = ask(sheet(PIN + SLOT), assembly(FITTED), sheet(PIN), assembly(FITTED), goes())
        self.assertEqual(given, [[2], [2], [1], [-2, 9, joined(FITTED).index("slot")], [-3]])


if __name__ == "__main__":
    unittest.main()
