"""Columns, cards, decks and their text: points 1 to 3."""

import copy
import unittest

from holedeck import cards
from holedeck.cards import need_deck, read, sign_of, written
from holedeck.errors import BadCard, BadText

# All 33 columns with their signs, written out from the document.
SIGNS = {(): " ", (10,): "-", (11,): "+"}
SIGNS.update({(figure,): "0123456789"[figure] for figure in range(10)})
SIGNS.update({(figure, 10): "KLMNOPQRST"[figure] for figure in range(10)})
SIGNS.update({(figure, 11): "ABCDEFGHIJ"[figure] for figure in range(10)})

GOOD = ((), (3,), (10,), (11,), (0, 10), (9, 11))
BAD_COLUMNS = (
    (1, 0), (10, 0), (11, 9), (11, 10), (0, 0), (10, 10), (5, 5, 10),
    (0, 1), (0, 9), (8, 9, 11), (10, 11), (0, 10, 11), (3, 4, 10, 11),
    (-1,), (-1, 3), (-2, 10), (12,), (3, 12), (10, 12), (13,), (100,), tuple(range(12)),
)


def refused(deck):
    """The fields of the refusal of a deck, None if it isn't refused."""
    try:
        need_deck(deck)
    except BadCard as told:
        return told.card, told.column
    return None


def refused_text(text):
    """The row of the refusal of a text, None if it isn't refused."""
    try:
        read(text)
    except BadText as told:
        return told.row
    return None


def wide(columns):
    """A good card of so many columns."""
    return tuple(GOOD[at % len(GOOD)] for at in range(columns))


class Signs(unittest.TestCase):

    def test_there_are_33(self):
        self.assertEqual(len(SIGNS), 33)
        self.assertEqual(len({sign_of(column) for column in SIGNS}), 33)

    def test_each(self):
        for column, sign in SIGNS.items():
            self.assertEqual(sign_of(column), sign, column)

    def test_only_need_deck_refuses_bad_columns(self):
        for column in BAD_COLUMNS:
            self.assertIs(type(sign_of(column)), str, column)
            self.assertIs(type(written([(column,), ()])), str, column)

    def test_defined_where_the_interface_lists_it(self):
        for name in ("need_deck", "sign_of", "written", "read"):
            self.assertEqual(getattr(cards, name).__module__, "holedeck.cards")


class NeedDeck(unittest.TestCase):

    def test_good_decks(self):
        self.assertIsNone(need_deck([]))
        self.assertIsNone(need_deck([tuple([column]) for column in SIGNS]))
        self.assertIsNone(need_deck([wide(columns) for columns in range(1, 13)]))

    def test_each_good_column_at_each_place(self):
        for column in SIGNS:
            for at in range(12):
                card = wide(at) + (column,) + wide(11 - at)
                self.assertIsNone(need_deck([card]))

    def test_200_cards_of_twelve_columns(self):
        self.assertIsNone(need_deck([wide(12)] * 200))

    def test_too_many_cards(self):
        self.assertEqual(refused([wide(12)] * 201), (200, 0))
        self.assertEqual(refused([((),)] * 300), (200, 0))

    def test_too_many_cards_ahead_of_all(self):
        self.assertEqual(refused([()] + [wide(3)] * 200), (200, 0))
        self.assertEqual(refused([wide(2), ((), (0, 1))] + [wide(3)] * 199), (200, 0))
        self.assertEqual(refused([wide(3)] * 200 + [((), (0, 1))]), (200, 0))

    def test_the_last_of_200_cards(self):
        self.assertEqual(refused([wide(12)] * 199 + [wide(11) + ((10, 11),)]), (199, 11))

    def test_bad_columns(self):
        for column in BAD_COLUMNS:
            self.assertEqual(refused([(column,)]), (0, 0), column)
            self.assertEqual(refused([wide(3), wide(2) + (column,)]), (1, 2), column)
            self.assertEqual(refused([wide(12), wide(11) + (column,)]), (1, 11), column)

    def test_each_pair_of_holes(self):
        for low in range(-1, 13):
            for high in range(-1, 13):
                good = (low, high) in SIGNS
                self.assertEqual(refused([((), (low, high))]), None if good else (0, 1), (low, high))

    def test_another_count_of_columns(self):
        self.assertEqual(refused([()]), (0, 0))
        self.assertEqual(refused([wide(12), ()]), (1, 0))
        self.assertEqual(refused([wide(1), wide(2), wide(13)]), (2, 0))
        self.assertEqual(refused([wide(20)]), (0, 0))

    def test_the_count_is_told_where_a_column_is_bad_too(self):
        self.assertEqual(refused([wide(5) + ((0, 1),) + wide(7)]), (0, 0))

    def test_the_first_bad_card_and_its_first_bad_column(self):
        bad = ((), (0, 1), (10, 11))
        self.assertEqual(refused([wide(1), bad, ((12,),)]), (1, 1))
        self.assertEqual(refused([wide(1), bad, ()]), (1, 1))
        self.assertEqual(refused([wide(1), (), bad]), (1, 0))
        self.assertEqual(refused([wide(1), wide(13), bad]), (1, 0))

    def test_nothing_is_changed_and_it_may_be_asked_again(self):
        good = [wide(2), wide(12)]
        bad = [wide(2), ((), (1, 0)), ()]
        kept = copy.deepcopy((good, bad))
        for _ in range(2):
            self.assertIsNone(refused(good))
            self.assertEqual(refused(bad), (1, 1))
        self.assertEqual((good, bad), kept)


class Text(unittest.TestCase):

    def test_ordinary(self):
        deck = [((0, 11), (7,)), ((10,), (), (3, 10), (11,))]
        self.assertEqual(written(deck), "A7\n- N+")
        self.assertEqual(read("A7\n- N+"), deck)

    def test_the_empty_deck(self):
        self.assertEqual(written([]), "")
        self.assertEqual(read(""), [])

    def test_each_sign(self):
        for column, sign in SIGNS.items():
            self.assertEqual(written([(column,)]), sign)
            self.assertEqual(read(sign), [(column,)])

    def test_trailing_blanks_stand(self):
        deck = [((),), ((), ()), ((5,), (), ()), ((), (5,)), ((),) * 12]
        self.assertEqual(written(deck), " \n  \n5  \n 5\n            ")
        self.assertEqual(read(written(deck)), deck)

    def test_unlike_widths(self):
        deck = [wide(columns) for columns in range(12, 0, -1)]
        self.assertEqual(read(written(deck)), deck)
        self.assertEqual([len(row) for row in written(deck).split("\n")], list(range(12, 0, -1)))

    def test_all_pairs_of_columns(self):
        for one in SIGNS:
            deck = [(one, other) for other in SIGNS]
            self.assertEqual(written(deck), "\n".join(SIGNS[one] + sign for sign in SIGNS.values()))
            self.assertEqual(read(written(deck)), deck)

    def test_kinds_of_what_is_read(self):
        deck = read("A1\n ")
        self.assertIs(type(deck), list)
        for card in deck:
            self.assertIs(type(card), tuple)
            for column in card:
                self.assertIs(type(column), tuple)

    def test_200_rows(self):
        deck = [wide(1 + number % 12) for number in range(200)]
        self.assertEqual(read(written(deck)), deck)
        self.assertEqual(read("\n".join(["ABC -+123KLM"] * 200)), read("ABC -+123KLM") * 200)

    def test_201_rows(self):
        self.assertEqual(refused_text("\n".join(["A"] * 201)), 200)
        self.assertEqual(refused_text("\n".join(["A"] * 250)), 200)
        self.assertEqual(refused_text("\n".join(["A"] * 200 + [""])), 200)
        self.assertEqual(refused_text("\n".join(["A"] * 200) + "\n"), 200)

    def test_201_cards_are_written(self):
        self.assertEqual(written([wide(1)] * 201), "\n".join([" "] * 201))

    def test_the_first_bad_row_is_told(self):
        self.assertEqual(refused_text("\n".join(["A"] * 5 + ["?"] + ["A"] * 200)), 5)
        self.assertEqual(refused_text("\n".join(["A"] * 199 + ["?"] + ["A"] * 20)), 199)
        self.assertEqual(refused_text("A\na\n\nB"), 1)
        self.assertEqual(refused_text("A\n\na\nB"), 1)

    def test_empty_rows(self):
        self.assertEqual(refused_text("\n"), 0)
        self.assertEqual(refused_text("\nA"), 0)
        self.assertEqual(refused_text("A\n\nB"), 1)
        self.assertEqual(refused_text("A\n"), 1)
        self.assertEqual(refused_text("A\nB\n"), 2)

    def test_wide_rows(self):
        self.assertEqual(read("A" * 12), [((0, 11),) * 12])
        self.assertEqual(refused_text("A" * 13), 0)
        self.assertEqual(refused_text(" " * 13), 0)
        self.assertEqual(refused_text("A\nB\n" + "7" * 13 + "\nA"), 2)

    def test_signs_of_no_column(self):
        signs = [chr(code) for code in range(32, 127)]
        for sign in signs:
            expected = None if sign in SIGNS.values() else 1
            self.assertEqual(refused_text("A\nB" + sign), expected, sign)
            self.assertEqual(refused_text("A\n" + sign + "B"), expected, sign)
        for sign in ("a", "k", "\t", "U", "Z", "*", "~", "&"):
            self.assertEqual(refused_text(sign), 0, sign)

    def test_other_line_ends(self):
        self.assertEqual(refused_text("A\r\nB"), 0)
        self.assertEqual(refused_text("A\nB\rC"), 1)
        self.assertEqual(refused_text("A\rB"), 0)
        self.assertEqual(refused_text("A\nB\r"), 1)
        for end in ("\x0b", "\x0c", "\x85", "\u2028"):
            self.assertEqual(refused_text("A" + end + "B"), 0)

    def test_nothing_is_changed_and_what_is_given_back_is_free(self):
        deck = [wide(4), wide(1)]
        kept = copy.deepcopy(deck)
        text = written(deck)
        self.assertEqual(deck, kept)
        found = read(text)
        found.append(wide(2))
        found[0] = ()
        self.assertEqual(read(text), kept)
        self.assertEqual(written(deck), text)
        nothing = read("")
        nothing.append(wide(1))
        self.assertEqual(read(""), [])
        for _ in range(2):
            self.assertEqual(refused_text("A\n\n"), 1)


if __name__ == "__main__":
    unittest.main()
