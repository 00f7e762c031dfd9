"""Decks in order, told plainly, and the passes that lay them so."""

from itertools import combinations

from holedeck.cards import HOLES, MOST_COLUMNS, SIGNS, column_at, column_of, only_signs, rank_of
from holedeck.errors import BadWish
from holedeck.sorter import pocket_of

MOST_KEYS = 6
FIGURES = (0, 1, 2, 3, 4, 5, 6, 7, 8, 9)
ABOVE = (10, 11)


def need_order(order):
    """Refuse an order that cannot be."""
    columns = [key[0] for key in order]
    if len(columns) > MOST_KEYS or len(set(columns)) < len(columns):
        raise BadWish("order")
    for column in columns:
        if not 0 <= column < MOST_COLUMNS:
            raise BadWish("order")


def need_signs(columns, signs):
    """Refuse signs that cannot be those of one of the columns."""
    for column in columns:
        text = signs.get(column, SIGNS)
        if text == "" or not only_signs(text):
            raise BadWish("signs")


def standing(card, order):
    """Tell what is less for a card that is ahead in the order, and the same for like cards."""
    ranks = []
    for column, falling in order:
        rank = rank_of(column_at(card, column))
        ranks.append(-rank if falling else rank)
    return tuple(ranks)


def plainly(deck, order):
    """Tell a deck in order, like cards as they came."""
    need_order(order)
    rows = sorted([(standing(card, order), at) for at, card in enumerate(deck)])
    return [deck[at] for _, at in rows]


def passes_for(order, signs):
    """Tell the fewest passes that lay every deck with such signs in the order."""
    need_order(order)
    need_signs([key[0] for key in order], signs)
    passes = []
    for at, falling in reversed(order):
        columns = columns_in_order(signs.get(at, SIGNS), falling)
        passes.extend(column_passes(at, falling, columns))
    return passes


def columns_in_order(text, falling):
    """Tell the unlike columns that have the signs of a text, in order."""
    columns = [column_of(sign) for sign in SIGNS if sign in text]
    if falling:
        columns.reverse()
    return columns


def column_passes(at, falling, columns):
    """Tell the passes by column `at` that lay the columns that it may have as they stand here."""
    if len(columns) == 1:
        return []
    one = one_pass(at, falling, columns)
    if one is not None:
        return [one]
    return [(at, FIGURES, falling), (at, ABOVE, falling)]


def one_pass(at, falling, columns):
    """Tell the first pass that does this alone, or None."""
    # Each unlike column needs a pocket of its own, and there is but one pocket without a place.
    for many in range(len(columns) - 1, HOLES + 1):
        for places in combinations(range(HOLES), many):
            numbers = [pocket_of(column, places) for column in columns]
            for falls in (falling, not falling):
                if is_rising(numbers[::-1] if falls else numbers):
                    return (at, places, falls)
    return None


def is_rising(numbers):
    """Tell whether each number is greater than the one ahead of it."""
    return numbers == sorted(set(numbers))
