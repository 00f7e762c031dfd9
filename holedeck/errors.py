"""The refusals of the office, each with the fields that tell what is wrong."""


class DeckError(ValueError):
    """Any refusal."""


class BadCard(DeckError):
    """A deck has a card that cannot be, or too many cards."""

    def __init__(self, card, column):
        DeckError.__init__(self, f"bad card {card}, column {column}")
        self.card = card
        self.column = column


class BadText(DeckError):
    """A row of a text writes no card, or is one too many."""

    def __init__(self, row):
        DeckError.__init__(self, f"bad row {row}")
        self.row = row


class BadWish(DeckError):
    """A part of a wish, an order or told signs cannot be."""

    def __init__(self, why):
        DeckError.__init__(self, f"bad wish: {why}")
        self.why = why


class BadWire(DeckError):
    """A plug of a wiring cannot be, or its watched columns (-1) cannot."""

    def __init__(self, at):
        DeckError.__init__(self, f"bad plug {at}")
        self.at = at


class Unsorted(DeckError):
    """A deck is not in order."""

    def __init__(self, deck, card):
        DeckError.__init__(self, f"deck {deck} is not in order at card {card}")
        self.deck = deck
        self.card = card
