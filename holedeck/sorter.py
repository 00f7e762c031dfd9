"""The sorter: it parts a deck by one column and lays it together again."""

from holedeck.cards import HOLES, column_at


def pocket_of(column, places):
    """Tell the number of the pocket into which a card with this column falls."""
    for hole in range(HOLES):
        if hole in places and hole in column:
            return hole + 1
    return 0


def pockets(deck, one):
    """Tell the thirteen decks into which a pass parts a deck."""
    at, places, _ = one
    decks = [[] for _ in range(HOLES + 1)]
    for card in deck:
        number = pocket_of(column_at(card, at), places)
        decks[number].append(card)
    return decks


def passed(deck, one):
    """Tell the deck that a pass lays together."""
    decks = pockets(deck, one)
    falling = one[2]
    if falling:
        decks.reverse()
    return [card for part in decks for card in part]


def sorted_by(deck, passes):
    """Tell the deck behind all passes, done one behind another."""
    laid = list(deck)
    for one in passes:
        laid = passed(laid, one)
    return laid
