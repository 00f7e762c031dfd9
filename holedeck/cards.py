"""Cards of columns with holes, the signs of columns and the text of a deck."""

from holedeck.errors import BadCard, BadText

MOST_CARDS = 200
MOST_COLUMNS = 12
HOLES = 12
FIRST_ABOVE = 10

# In the order of their columns, so that a sign's index is its column's rank.
SIGNS = " 0123456789-KLMNOPQRST+ABCDEFGHIJ"
# The ranks with one hole above: that of no figure, then those of 0 to 9.
RANKS_EACH = 11


def need_deck(deck):
    """Refuse a deck that has too many cards or a bad one."""
    if len(deck) > MOST_CARDS:
        raise BadCard(MOST_CARDS, 0)
    for number, card in enumerate(deck):
        if not 1 <= len(card) <= MOST_COLUMNS:
            raise BadCard(number, 0)
        for at, column in enumerate(card):
            if not is_column(column):
                raise BadCard(number, at)


def is_column(column):
    """Tell whether the holes are those that some sign has, and rising."""
    return column == ranked(rank_of(column))


def rank_of(column):
    """Tell the number of a column among all columns in order, from 0."""
    figures = [hole + 1 for hole in column if 0 <= hole < FIRST_ABOVE]
    above = [hole + 1 - FIRST_ABOVE for hole in column if FIRST_ABOVE <= hole < HOLES]
    # A bad column has a rank, too: only need_deck may refuse it.
    return RANKS_EACH * max(above, default=0) + max(figures, default=0)


def ranked(rank):
    """Tell the column that has this rank."""
    above, figure = divmod(rank, RANKS_EACH)
    holes = []
    if figure > 0:
        holes.append(figure - 1)
    if above > 0:
        holes.append(above - 1 + FIRST_ABOVE)
    return tuple(holes)


def sign_of(column):
    """Tell the sign of a column."""
    return SIGNS[rank_of(column)]


def column_of(sign):
    """Tell the column that has one of the 33 signs."""
    return ranked(SIGNS.index(sign))


def figure_of(column):
    """Tell the figure of a column, 0 without a figure's hole."""
    return max([hole for hole in column if 0 <= hole < FIRST_ABOVE], default=0)


def column_at(card, at):
    """Tell a card's column, which has no holes beyond the card."""
    if 0 <= at < len(card):
        return card[at]
    return ()


def only_signs(text):
    """Tell whether a text has no sign but those of columns."""
    return all([sign in SIGNS for sign in text])


def written(deck):
    """Tell the text of a deck."""
    rows = ["".join([sign_of(column) for column in card]) for card in deck]
    return "\n".join(rows)


def read(text):
    """Tell the deck that a text writes."""
    if text == "":
        return []
    deck = []
    # Only a line feed parts rows: other line ends are signs of no column.
    for number, row in enumerate(text.split("\n")):
        if number == MOST_CARDS or not writes_card(row):
            raise BadText(number)
        deck.append(tuple([column_of(sign) for sign in row]))
    return deck


def writes_card(row):
    """Tell whether a row of a text writes a card."""
    return 1 <= len(row) <= MOST_COLUMNS and only_signs(row)
