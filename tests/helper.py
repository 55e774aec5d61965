"""Calls and texts for the tests, and the answers to them."""

import itertools

from fitparts.board import answers

PIN = ["part pin", "face a <", "face b >", "dim a b 10 +-0.1", "end"]
SLOT = ["part slot", "face l >", "face r <", "dim l r 10.3 +-0.1", "end"]
FITTED = ["assembly ok", "use p pin", "use s slot", "clear s l p a 0", "clear p b s r 0",
          "want p b s r +0 +0.5", "end"]


def codes(text):
    return list(text.encode("latin-1"))


def joined(lines):
    return "".join(line + "\n" for line in lines)


def as_text(text):
    return text if isinstance(text, str) else joined(text)


def text_call(number, text):
    text = codes(as_text(text))
    return [number, 0, 1, len(text)] + text


def sheet(text):
    return text_call(1, text)


def text():
    return [2, 0, 0]


def find(name):
    return text_call(3, name)


def between(part, f, g):
    return [4, 3, part, f, g, 0]


def chain(part, f, g):
    return [5, 3, part, f, g, 0]


def good(part, sizes):
    return [6, 1, part, 1, len(sizes)] + list(sizes)


def assembly(text):
    return text_call(7, text)


def goes():
    return [8, 0, 0]


def with_sizes(sizes):
    return [9, 0, 1, len(sizes)] + list(sizes)


def gap(use, face, other_use, other_face):
    return [10, 4, use, face, other_use, other_face, 0]


def gapof(use, face, other_use, other_face, sizes):
    return [11, 4, use, face, other_use, other_face, 1, len(sizes)] + list(sizes)


def wants():
    return [12, 0, 0]


def lists(rows):
    """Lists as they stand in a call, with how many there are."""
    return [len(rows)] + [number for row in rows for number in [len(row)] + list(row)]


def judge(offers):
    return [13, 0] + lists(offers)


def price(choice, offers):
    return [14, 0] + lists([choice] + list(offers))


def best(above, offers):
    return [15, 1, above] + lists(offers)


def idle(offers):
    return [16, 0] + lists(offers)


def ask(*calls):
    """The answers to these calls on one new board, a list each."""
    given = answers([number for call in calls for number in call])
    split = []
    place = 0
    while place < len(given):
        split.append(given[place + 1:place + 1 + given[place]])
        place += 1 + given[place]
    assert len(split) == len(calls)
    return split


def last(*calls):
    """The answer to the last of these calls."""
    return ask(*calls)[-1]


def sheet_text_answer(lines):
    text = codes(as_text(lines))
    return [len(text)] + text


class Dice:
    """Numbers that look thrown but are the same in every run."""

    def __init__(self, seed):
        self.state = seed

    def below(self, count):
        self.state = (self.state * 6364136223846793005 + 1442695040888963407) % 2 ** 64
        return (self.state >> 33) % count

    def pick(self, things):
        return things[self.below(len(things))]


def deviation(ticks):
    """The text of a deviation."""
    whole, behind = divmod(abs(ticks), 10000)
    return "+-"[ticks < 0] + f"{whole}.{behind:04}".rstrip("0").rstrip(".")


def block(name, size):
    """A part between two faces."""
    return [f"part {name}", "face a <", "face b >", f"dim a b {size}", "end"]


def hall(name, size):
    """A part around a room."""
    return [f"part {name}", "face l >", "face r <", f"dim l r {size}", "end"]


class Model:
    """A sheet and an assembly as plain rows, to be written as texts and to be searched through.

    A part is its faces' sides and its dimensions: first face, second face, N, lo, hi. A use is a part's number. A
    relation is its two faces (use, face), whether they touch, and its ticks; a want two faces, the least and the most.
    """

    def __init__(self, parts, uses, relations, wants):
        self.parts = parts
        self.uses = uses
        self.relations = relations
        self.wants = wants

    def sheet_lines(self):
        lines = []
        for k, (sides, dims) in enumerate(self.parts):
            lines += [f"part p{k}"] + [f"face f{face} {'<>'[side]}" for face, side in enumerate(sides)]
            for first, second, nominal, lo, hi in dims:
                lines.append(f"dim f{first} f{second} {deviation(nominal)[1:]} {deviation(hi)} {deviation(lo)}")
            lines.append("end")
        return lines

    def assembly_lines(self):
        lines = ["assembly a"] + [f"use u{k} p{part}" for k, part in enumerate(self.uses)]
        for first, second, touches, ticks in self.relations:
            names = f"u{first[0]} f{first[1]} u{second[0]} f{second[1]}"
            lines.append(f"touch {names}" if touches else f"clear {names} {deviation(ticks)[1:]}")
        for first, second, least, most in self.wants:
            names = f"u{first[0]} f{first[1]} u{second[0]} f{second[1]}"
            lines.append(f"want {names} {deviation(least)} {deviation(most)}")
        return lines + ["end"]

    def calls(self):
        return [sheet(self.sheet_lines()), assembly(self.assembly_lines())]

    def with_limits(self, part, dim, lo, hi):
        """The same with other limits of one dimension."""
        parts = [(sides, list(dims)) for sides, dims in self.parts]
        parts[part][1][dim] = parts[part][1][dim][:3] + (lo, hi)
        return Model(parts, self.uses, self.relations, self.wants)

    def with_choice(self, choice, offers):
        """The same with the limits of a choice."""
        changed = self
        for number in choice:
            use, dim, lo, hi, cost = offers[number]
            changed = changed.with_limits(self.uses[use], dim, lo, hi)
        return changed


class Sizes:
    """How large what is thrown may be."""

    def __init__(self, faces, uses, relations, wants, nominal, play):
        self.faces = faces
        self.uses = uses
        self.relations = relations
        self.wants = wants
        self.nominal = nominal
        self.play = play


def throw_part(dice, sizes):
    count = 2 + dice.below(sizes.faces - 1)
    sides = [0, 1] + [dice.below(2) for face in range(count - 2)]
    dims = []
    for face in range(1, count):
        pair = [face, dice.below(face)]
        if dice.below(2):
            pair.reverse()
        nominal = sizes.play + 1 + dice.below(sizes.nominal)
        dims.append((pair[0], pair[1], nominal, -dice.below(sizes.play + 1), dice.below(sizes.play + 1)))
    return (sides, dims)


def throw_face(dice, parts, uses, use, side=None):
    sides = parts[uses[use]][0]
    return (use, dice.pick([face for face in range(len(sides)) if side in (None, sides[face])]))


def throw_model(dice, sizes):
    """A model at hazard; each of its parts has a face to each side."""
    parts = [throw_part(dice, sizes) for k in range(1 + dice.below(3))]
    uses = [dice.below(len(parts)) for k in range(1 + dice.below(sizes.uses))]
    relations = []
    for k in range(dice.below(sizes.relations + 1) if len(uses) > 1 else 0):
        first = dice.below(len(uses))
        second = (first + 1 + dice.below(len(uses) - 1)) % len(uses)
        ends = (throw_face(dice, parts, uses, first, 1), throw_face(dice, parts, uses, second, 0))
        touches = dice.below(3) == 0
        relations.append(ends + (touches, 0 if touches else dice.below(sizes.play + 2)))
    wanted = []
    for k in range(dice.below(sizes.wants + 1)):
        ends = [throw_face(dice, parts, uses, dice.below(len(uses))) for end in range(2)]
        least = dice.below(4 * sizes.nominal) - 3 * sizes.nominal
        wanted.append((ends[0], ends[1], least, least + dice.below(5 * sizes.nominal)))
    return Model(parts, uses, relations, wanted)


def face_places(dims, sizes, start=0):
    """Where a part's faces lie with these sizes, the starting one at 0."""
    places = {start: 0}
    while len(places) < len(dims) + 1:
        for dim, size in zip(dims, sizes):
            if dim[0] in places:
                places[dim[1]] = places[dim[0]] + size
            elif dim[1] in places:
                places[dim[0]] = places[dim[1]] - size
    return places


def throw_fitting(dice, sizes, slack):
    """A model at hazard whose faces are placed first, so that its relations hold with some slack at nominal sizes."""
    model = throw_model(dice, sizes)
    nominal = [face_places(model.parts[part][1], [dim[2] for dim in model.parts[part][1]]) for part in model.uses]
    at = [dice.below(2 * sizes.nominal) for use in model.uses]
    model.relations = []
    for k in range(40):
        first = throw_face(dice, model.parts, model.uses, dice.below(len(model.uses)), 1)
        second = throw_face(dice, model.parts, model.uses, dice.below(len(model.uses)), 0)
        apart = at[second[0]] + nominal[second[0]][second[1]] - at[first[0]] - nominal[first[0]][first[1]]
        if first[0] != second[0] and apart >= slack and len(model.relations) < sizes.relations:
            model.relations.append((first, second, False, apart - slack))
    return model


def throw_offers(dice, model, most, play):
    """Offers at hazard for some dimensions of the model's parts, 1 to most for each."""
    targets = []
    for use, part in enumerate(model.uses):
        if part not in model.uses[:use]:
            targets += [(use, dim) for dim in range(len(model.parts[part][1]))]
    targets = sorted(targets, key=lambda target: dice.below(1000))[:1 + dice.below(4)]
    offers = []
    for use, dim in targets:
        nominal = model.parts[model.uses[use]][1][dim][2]
        for k in range(1 + dice.below(most)):
            lo = max(1 - nominal, -dice.below(play + 1))
            offers.append([use, dim, lo, lo + dice.below(play + 1), dice.below(4)])
    return offers


def choices_of(offers):
    """All choices of offers in their order."""
    groups = []
    for number, offer in enumerate(offers):
        if number and offers[number - 1][:2] == offer[:2]:
            groups[-1].append(number)
        else:
            groups.append([number])
    return [list(choice) for choice in itertools.product(*groups)]
