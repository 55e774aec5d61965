"""Calls and texts for the tests, and the answers to them."""

from fitparts.board import answers

PIN = ["part pin", "face a <", "face b >", "dim a b 10 +-0.1", "end"]
SLOT = ["part slot", "face l >", "face r <", "dim l r 10.3 +-0.1", "end"]
FITTED = ["assembly ok", "use p pin", "use s slot", "clear s l p a 0", "clear p b s r 0",
          "want p b s r +0 +0.5", "end"]


def codes(text):
    return list(text.encode("latin-1"))


def joined(lines):
    return "".join(line + "\n" for line in lines)


def as_text(text):
    return text if isinstance(text, str) else joined(text)


def text_call(number, text):
    text = codes(as_text(text))
    return [number, 0, 1, len(text)] + text


def sheet(text):
    return text_call(1, text)


def text():
    return [2, 0, 0]


def find(name):
    return text_call(3, name)


def between(part, f, g):
    return [4, 3, part, f, g, 0]


def chain(part, f, g):
    return [5, 3, part, f, g, 0]


def good(part, sizes):
    return [6, 1, part, 1, len(sizes)] + list(sizes)


def assembly(text):
    return text_call(7, text)


def goes():
    return [8, 0, 0]


def ask(*calls):
    """The answers to these calls on one new board, a list each."""
    given = answers([number for call in calls for number in call])
    split = []
    place = 0
    while place < len(given):
        split.append(given[place + 1:place + 1 + given[place]])
        place += 1 + given[place]
    assert len(split) == len(calls)
    return split


def last(*calls):
    """The answer to the last of these calls."""
    return ask(*calls)[-1]


def sheet_text_answer(lines):
    text = codes(as_text(lines))
    return [len(text)] + text


class Dice:
    """Numbers that look thrown but are the same in every run."""

    def __init__(self, seed):
        self.state = seed

    def below(self, count):
        self.state = (self.state * 6364136223846793005 + 1442695040888963407) % 2 ** 64
        return (self.state >> 33) % count

    def pick(self, things):
        return things[self.below(len(things))]
