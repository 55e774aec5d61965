"""Gaps, wants and choices of small assemblies against a search through all good sizes and placements."""

import itertools
import unittest

from tests.helper import (Dice, Model, Sizes, ask, best, choices_of, face_places, gap, gapof, goes, idle, price, throw_face,
                          throw_model, throw_offers, wants, with_sizes)

SMALL = Sizes(3, 3, 4, 2, 2, 1)


def size_ranges(model):
    """The good sizes of each dimension of each use."""
    return [range(dim[2] + dim[3], dim[2] + dim[4] + 1) for part in model.uses for dim in model.parts[part][1]]


def size_count(model):
    count = 1
    for sizes in size_ranges(model):
        count *= len(sizes)
    return count


def reach(model):
    """More than any bound that there is can come to."""
    ticks = sum(max(sizes[-1], 0) for sizes in size_ranges(model))
    return 1 + ticks + sum(relation[3] for relation in model.relations)


def placements(model, sizes, window):
    """The places of all faces, use by use, in every placement with the first use at 0, others within the window."""
    rows = []
    rest = list(sizes)
    for part in model.uses:
        dims = model.parts[part][1]
        rows.append(face_places(dims, rest[:len(dims)]))
        rest = rest[len(dims):]

    def keep(first, second, touches, ticks, offsets):
        if max(first[0], second[0]) >= len(offsets):
            return True
        off = offsets[second[0]] + rows[second[0]][second[1]] - offsets[first[0]] - rows[first[0]][first[1]]
        return off == 0 if touches else off >= ticks

    found = [(0,)]
    for use in range(1, len(rows)):
        mine = [relation for relation in model.relations if use in (relation[0][0], relation[1][0])]
        found = [offsets + (offset,) for offsets in found for offset in range(-window, window + 1)
                 if all(keep(*relation, offsets + (offset,)) for relation in mine)]
    return rows, found


def gaps(rows, found, first, second):
    """Every gap from a face to a face in these placements."""
    apart = rows[second[0]][second[1]] - rows[first[0]][first[1]]
    return {apart + offsets[second[0]] - offsets[first[0]] for offsets in found}


def told(values, most):
    """The answer of gap; beyond what any bound comes to there's none."""
    if not values:
        return [-5]
    answer = [0]
    for bound in (min(values), max(values)):
        answer += [0] if abs(bound) > most else [1, bound]
    return answer


class Search:
    """All that the placements of a model with all its good sizes tell."""

    def __init__(self, model):
        self.model = model
        self.most = reach(model)
        self.found = {}
        for sizes in itertools.product(*size_ranges(model)):
            self.found[sizes] = placements(model, sizes, 2 * self.most)

    def all_gaps(self, first, second):
        values = set()
        for rows, found in self.found.values():
            values |= gaps(rows, found, first, second)
        return values

    def goes(self):
        return all(found for rows, found in self.found.values())

    def first_unkept(self):
        for number, (first, second, least, most) in enumerate(self.model.wants):
            answer = told(self.all_gaps(first, second), self.most)
            if not self.goes() or len(answer) < 5 or answer[2] < least or answer[4] > most:
                return number + 1
        return 0

    def does(self):
        return self.goes() and self.first_unkept() == 0


def throw_small(dice, uses, most_sizes):
    """A model that can be searched through."""
    sizes = Sizes(SMALL.faces, uses, SMALL.relations, SMALL.wants, SMALL.nominal, SMALL.play)
    while True:
        model = throw_model(dice, sizes)
        if size_count(model) <= most_sizes:
            return model


def near_wants(dice, model, offers, choices):
    """A want or two whose bounds are those of the gap with one of the choices, or near them."""
    found = []
    search = Search(model.with_choice(dice.pick(choices), offers))
    for k in range(8):
        ends = [throw_face(dice, model.parts, model.uses, dice.below(len(model.uses))) for end in range(2)]
        answer = told(search.all_gaps(*ends), search.most)
        if len(answer) == 5 and len(found) < 2:
            found.append((ends[0], ends[1], answer[2] - dice.below(2), answer[4] + dice.below(2)))
    return found


class ByForce(unittest.TestCase):

    def test_gaps_and_sizes(self):
        dice = Dice(77)
        shapes = {}
        for k in range(260):
            model = throw_small(dice, 3, 8)
            search = Search(model)
            ends = [throw_face(dice, model.parts, model.uses, dice.below(len(model.uses))) for end in range(2)]
            flat = ends[0] + ends[1]
            values = search.all_gaps(*ends)
            expected = told(values, search.most)
            sizes = list(search.found)
            calls = [goes(), gap(*flat)] + [with_sizes(row) for row in sizes] + [gapof(*flat, row) for row in sizes]
            given = ask(*model.calls(), *calls)[2:]
            context = (model.sheet_lines(), model.assembly_lines(), flat)
            self.assertEqual(given[0] == [0], search.goes(), context)
            self.assertEqual(given[1], expected, context)
            self.assertEqual(given[2:2 + len(sizes)], [[int(bool(search.found[row][1]))] for row in sizes], context)
            alone = [told(gaps(*search.found[row], *ends), search.most) for row in sizes]
            self.assertEqual(given[2 + len(sizes):], alone, context)
            if len(expected) == 5:
                self.assertEqual(values, set(range(expected[2], expected[4] + 1)), context)
            shape = (min(values) < -search.most, max(values) > search.most) if values else None
            shapes[shape] = shapes.get(shape, 0) + 1
        self.assertEqual(len(shapes), 5, shapes)
        self.assertGreater(min(shapes.values()), 7, shapes)

    def test_wants(self):
        dice = Dice(5)
        seen = {}
        for k in range(300):
            model = throw_small(dice, 3, 8)
            search = Search(model)
            expected = search.first_unkept()
            self.assertEqual(ask(*model.calls(), wants())[2], [expected], (model.sheet_lines(), model.assembly_lines()))
            key = (len(model.wants), expected)
            seen[key] = seen.get(key, 0) + 1
        self.assertGreater(min(seen.get(key, 0) for key in ((1, 0), (1, 1), (2, 0), (2, 1), (2, 2))), 5, seen)

    def test_choices(self):
        dice = Dice(9)
        counts = {}
        for k in range(260):
            model = throw_small(dice, 3, 8)
            offers = throw_offers(dice, model, 3, 2)
            choices = choices_of(offers)
            if max(size_count(model.with_choice(choice, offers)) for choice in choices) > 18 or len(choices) > 12:
                continue
            model = Model(model.parts, model.uses, model.relations, near_wants(dice, model, offers, choices))
            do = {tuple(choice) for choice in choices if Search(model.with_choice(choice, offers)).does()}
            context = (model.sheet_lines(), model.assembly_lines(), offers)
            self.check_choices(model, offers, choices, do, context)
            key = (len(do) > 0) + (len(do) == len(choices))
            counts[key] = counts.get(key, 0) + 1
        self.assertGreater(min(counts.get(key, 0) for key in (0, 1, 2)), 20, counts)

    def check_choices(self, model, offers, choices, do, context):
        costs = {tuple(choice): sum(offers[number][4] for number in choice) for choice in choices}
        calls = model.calls()
        given = ask(*calls, *[price(choice, offers) for choice in choices], idle(offers))
        self.assertEqual(given[2:-1], [[costs[tuple(choice)]] if tuple(choice) in do else [-5] for choice in choices], context)
        unused = [int(all(number not in choice for choice in do)) for number in range(len(offers))]
        self.assertEqual(given[-1], [sum(unused)] + unused, context)
        above = -1
        for cost in sorted({costs[choice] for choice in do}):
            answer = ask(*calls, best(above, offers))[2]
            self.assertEqual(answer, [cost] + list(min(choice for choice in do if costs[choice] == cost)), context)
            above = cost
        self.assertEqual(ask(*calls, best(above, offers))[2], [-5], context)


if __name__ == "__main__":
    unittest.main()
