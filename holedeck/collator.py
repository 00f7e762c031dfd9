"""The collator: it lays two decks in order into one, or parts one by another."""

from holedeck.errors import Unsorted
from holedeck.orders import need_order, plainly, standing


def need_in_order(decks, order):
    """Refuse a wrong order, and decks that are not in it."""
    need_order(order)
    for number, deck in enumerate(decks):
        for at in range(1, len(deck)):
            if standing(deck[at], order) < standing(deck[at - 1], order):
                raise Unsorted(number, at)


def laid(one, other, order):
    """Tell two decks in order as one in order, of like cards those of the first deck ahead."""
    need_in_order([one, other], order)
    return plainly([*one, *other], order)


def parted(deck, other, order):
    """Tell the cards of a deck that have a like one in the other deck, and those that have not."""
    need_in_order([deck, other], order)
    known = {standing(card, order) for card in other}
    matched = []
    unmatched = []
    for card in deck:
        if standing(card, order) in known:
            matched.append(card)
        else:
            unmatched.append(card)
    return (matched, unmatched)
