"""Offers: limits at prices for dimensions, and the choices among them."""

from fitparts.sizes import is_fit

GREATEST_PRICE = 2147483647
MOST_OFFERS = 12
MOST_OF_ONE = 3
MOST_TARGETS = 4


class Offer:
    """The part's name and the dimension's number that it's for, the least and the greatest good size, and the price."""

    def __init__(self, target, span, price):
        self.target = target
        self.span = span
        self.price = price


class Offers:
    """The offers in their order, and for each target the numbers of its offers."""

    def __init__(self, row, groups):
        self.row = row
        self.groups = groups


def is_first_of_part(uses, number):
    """Whether there's such a use, and none before it has a part of that name."""
    if number >= len(uses):
        return False
    name = uses[number].part.name
    return all([use.part.name != name for use in uses[:number]])


def read_offer(numbers, uses):
    """The offer that five numbers tell (use, dimension, lo, hi, price); None if they tell none."""
    if not is_first_of_part(uses, numbers[0]):
        return None
    part = uses[numbers[0]].part
    if numbers[1] >= len(part.dimensions) or numbers[4] > GREATEST_PRICE:
        return None
    nominal = part.dimensions[numbers[1]].size.nominal
    if not is_fit(nominal, numbers[2], numbers[3]):
        return None
    return Offer((part.name, numbers[1]), (nominal + numbers[2], nominal + numbers[3]), numbers[4])


def group_offers(row):
    """The numbers of the offers, those of one target that stand one behind another together."""
    groups = []
    for number, offer in enumerate(row):
        if number > 0 and row[number - 1].target == offer.target:
            groups[-1].append(number)
        else:
            groups.append([number])
    return groups


def targets_of(offers):
    """What the offers are for, each once."""
    return [offers.row[group[0]].target for group in offers.groups]


def read_offers(rows, uses):
    """The offers that the rows of five numbers tell; None if they're no offers."""
    if len(rows) == 0 or len(rows) > MOST_OFFERS:
        return None
    row = [read_offer(numbers, uses) for numbers in rows]
    if any([offer is None for offer in row]):
        return None
    offers = Offers(row, group_offers(row))
    targets = targets_of(offers)
    if len(targets) > MOST_TARGETS or any([len(group) > MOST_OF_ONE for group in offers.groups]):
        return None
    # A target twice is one whose offers don't stand one behind another.
    if any([targets.count(target) > 1 for target in targets]):
        return None
    return offers


def is_choice(choice, offers):
    """Whether the numbers are one of each target's offers, in order."""
    if len(choice) != len(offers.groups):
        return False
    return all([number in group for number, group in zip(choice, offers.groups)])


def all_choices(offers):
    """Every choice, the first in order first."""
    choices = [[]]
    for group in offers.groups:
        longer = []
        for choice in choices:
            longer.extend([choice + [number] for number in group])
        choices = longer
    return choices


def price_of(choice, offers):
    return sum([offers.row[number].price for number in choice])


def spans_of(choice, offers):
    """The spans of the targets with a choice."""
    return [offers.row[number].span for number in choice]
