"""The calls on offers: what they are for, what a choice costs, the best one, and the offers of no use."""

from fitparts.offers import all_choices, is_choice, price_of, read_offers, spans_of, targets_of
from fitparts.refusals import NONE_THERE, NO_CHOICE, NO_OFFERS
from fitparts.terms import all_hold, terms_of

PRICE = 14


def offered_terms(board, offers):
    """The terms of the board's assembly, with the limits of the offered dimensions to be put in."""
    return terms_of(board.assembly, board.routes, targets_of(offers))


def call_judge(board, offers, numbers, rows):
    return [len(offers.groups)]


def call_price(board, offers, numbers, rows):
    choice = rows[0]
    if not is_choice(choice, offers):
        return [NO_CHOICE]
    if not all_hold(offered_terms(board, offers), spans_of(choice, offers)):
        return [NONE_THERE]
    return [price_of(choice, offers)]


def call_best(board, offers, numbers, rows):
    terms = offered_terms(board, offers)
    priced = [(price_of(choice, offers), choice) for choice in all_choices(offers)]
    # Pairs are sorted by price, and those of one price in the order of choices.
    for price, choice in sorted(priced):
        if price > numbers[0] and all_hold(terms, spans_of(choice, offers)):
            return [price] + choice
    return [NONE_THERE]


def call_idle(board, offers, numbers, rows):
    terms = offered_terms(board, offers)
    idle = [1] * len(offers.row)
    for choice in all_choices(offers):
        # Where all that a choice takes is known to be of use, it tells nothing more.
        if any([idle[number] == 1 for number in choice]) and all_hold(terms, spans_of(choice, offers)):
            for number in choice:
                idle[number] = 0
    return [sum(idle)] + idle


CALLS = {
    13: call_judge,
    14: call_price,
    15: call_best,
    16: call_idle,
}


def answer_on_offers(board, number, numbers, rows):
    """The answer to the call of that number; the board holds an assembly."""
    # Ahead of the offers price has its choice.
    told = rows[1:] if number == PRICE else rows
    offers = read_offers(told, board.assembly.uses)
    if offers is None:
        return [NO_OFFERS]
    return CALLS[number](board, offers, numbers, rows)
