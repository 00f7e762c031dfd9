"""Two decks laid into one, and one parted by another: points 1 and 8."""

import copy
import random
import unittest

from holedeck.cards import read, written
from holedeck.collator import laid, parted
from holedeck.errors import BadWish, Unsorted
from holedeck.orders import plainly

SIGNS = " 0123456789-KLMNOPQRST+ABCDEFGHIJ"
RISING = [(0, False)]
FALLING = [(0, True)]

BAD_ORDERS = (
    [(-1, False)],
    [(12, True)],
    [(0, False), (12, False)],
    [(3, False), (3, True)],
    [(column, False) for column in range(7)],
)


def some_deck(chance, many, widest, signs):
    rows = ["".join(chance.choice(signs) for _ in range(chance.randint(1, widest))) for _ in range(many)]
    return read("\n".join(rows))


def some_order(chance, columns):
    picked = chance.sample(range(columns), chance.randint(0, min(6, columns)))
    return [(column, chance.random() < 0.5) for column in picked]


def alike(one, other, order):
    """Whether two cards have the same holes in all columns of the order."""
    for column, _ in order:
        if (one[column:column + 1] or ((),)) != (other[column:column + 1] or ((),)):
            return False
    return True


def texts(decks):
    return [written(deck) for deck in decks]


class Laid(unittest.TestCase):

    def test_two_decks(self):
        self.assertEqual(written(laid(read("1\n3\n5"), read("2\n4"), RISING)), "1\n2\n3\n4\n5")
        self.assertEqual(written(laid(read("2\n4"), read("1\n3\n5"), RISING)), "1\n2\n3\n4\n5")
        self.assertEqual(written(laid(read("1\n2"), read("8\n9"), RISING)), "1\n2\n8\n9")
        self.assertEqual(written(laid(read("8\n9"), read("1\n2"), RISING)), "1\n2\n8\n9")

    def test_a_falling_order(self):
        self.assertEqual(written(laid(read("J\n3\n "), read("-\n4\n4"), FALLING)), "J\n-\n4\n4\n3\n ")

    def test_like_cards_of_the_first_deck_are_ahead(self):
        one, other = read("1A\n1B\n2A"), read("1C\n1D\n2B\n2C")
        self.assertEqual(written(laid(one, other, RISING)), "1A\n1B\n1C\n1D\n2A\n2B\n2C")
        self.assertEqual(written(laid(other, one, RISING)), "1C\n1D\n1A\n1B\n2B\n2C\n2A")
        one, other = read("2A\n1B"), read("2C\n1D")
        self.assertEqual(written(laid(one, other, FALLING)), "2A\n2C\n1B\n1D")

    def test_two_columns(self):
        order = [(1, True), (0, False)]
        self.assertEqual(written(laid(read("19\n18\n28"), read("09\n29\n18"), order)), "09\n19\n29\n18\n18\n28")

    def test_cards_of_unlike_widths(self):
        order = [(1, False)]
        told = laid(read("5\n3 1\n51"), read("4 \n4\n40\n4222"), order)
        self.assertEqual(written(told), "5\n3 1\n4 \n4\n40\n51\n4222")
        order = [(1, True)]
        self.assertEqual(written(laid(read("51\n5"), read("4222\n4 \n4"), order)), "4222\n51\n5\n4 \n4")

    def test_an_empty_deck(self):
        deck = read("1\n2")
        self.assertEqual(laid([], deck, RISING), deck)
        self.assertEqual(laid(deck, [], RISING), deck)
        self.assertEqual(laid([], [], RISING), [])

    def test_an_empty_order(self):
        self.assertEqual(written(laid(read("3\n1"), read("2\n9\n0"), [])), "3\n1\n2\n9\n0")

    def test_a_deck_and_itself(self):
        deck = read("1A\n1B\n2A")
        self.assertEqual(written(laid(deck, deck, RISING)), "1A\n1B\n1A\n1B\n2A\n2A")
        self.assertEqual(written(deck), "1A\n1B\n2A")

    def test_more_than_200_cards_are_no_error(self):
        deck = read("\n".join(["1"] * 150 + ["2"] * 50))
        self.assertEqual(written(laid(deck, deck, RISING)), "\n".join(["1"] * 300 + ["2"] * 100))

    def test_as_plainly_of_both(self):
        chance = random.Random(81)
        for _ in range(150):
            order = some_order(chance, 4)
            one = plainly(some_deck(chance, chance.randint(0, 12), 4, " 01AK"), order)
            other = plainly(some_deck(chance, chance.randint(0, 12), 4, " 01AK"), order)
            self.assertEqual(laid(one, other, order), plainly(one + other, order))


class Parted(unittest.TestCase):

    def test_two_decks(self):
        told = parted(read("1\n2\n3\n4"), read("0\n2\n4\n5"), RISING)
        self.assertIsInstance(told, tuple)
        self.assertEqual(texts(told), ["2\n4", "1\n3"])

    def test_like_cards_as_they_came(self):
        deck = read("1A\n1C\n1B\n2A\n2A\n3B\n3A")
        self.assertEqual(texts(parted(deck, read("1J\n3"), RISING)), ["1A\n1C\n1B\n3B\n3A", "2A\n2A"])
        self.assertEqual(texts(parted(deck, read("2\n2\n2"), RISING)), ["2A\n2A", "1A\n1C\n1B\n3B\n3A"])

    def test_a_falling_order(self):
        self.assertEqual(texts(parted(read("9\n5\n1"), read("9\n1\n1"), FALLING)), ["9\n1", "5"])

    def test_only_the_columns_of_the_order_make_cards_alike(self):
        order = [(0, False), (2, True)]
        self.assertEqual(texts(parted(read("1A2\n1B1\n2A2"), read("1K2\n2A1"), order)), ["1A2", "1B1\n2A2"])

    def test_all_of_a_sign_counts(self):
        self.assertEqual(texts(parted(read("0\n-\nK\nA"), read(" \nK"), RISING)), ["K", "0\n-\nA"])

    def test_cards_of_unlike_widths(self):
        order = [(1, False)]
        self.assertEqual(texts(parted(read("1\n2 3\n33"), read("4 \n45"), order)), ["1\n2 3", "33"])
        self.assertEqual(texts(parted(read("4 \n45"), read("1\n33"), order)), ["4 ", "45"])

    def test_an_empty_deck(self):
        deck = read("1\n2")
        self.assertEqual(parted([], deck, RISING), ([], []))
        self.assertEqual(parted(deck, [], RISING), ([], deck))
        self.assertEqual(parted([], [], []), ([], []))

    def test_an_empty_order(self):
        deck = read("3\n1\n2")
        self.assertEqual(parted(deck, read("9"), []), (deck, []))
        self.assertEqual(parted(deck, [], []), ([], deck))

    def test_a_deck_and_itself(self):
        deck = read("1A\n1B\n2A")
        self.assertEqual(parted(deck, deck, RISING), (deck, []))

    def test_as_looking_at_all_cards_tells(self):
        chance = random.Random(82)
        for _ in range(150):
            order = some_order(chance, 4)
            deck = plainly(some_deck(chance, chance.randint(0, 12), 4, " 01AK"), order)
            other = plainly(some_deck(chance, chance.randint(0, 5), 4, " 01AK"), order)
            have = [any(alike(card, one, order) for one in other) for card in deck]
            expected = (
                [card for card, has in zip(deck, have) if has],
                [card for card, has in zip(deck, have) if not has],
            )
            self.assertEqual(parted(deck, other, order), expected)


class Refusals(unittest.TestCase):

    def assert_unsorted(self, number, card, one, other, order):
        for ask in (laid, parted):
            with self.assertRaises(Unsorted) as caught:
                ask(one, other, order)
            self.assertEqual((caught.exception.deck, caught.exception.card), (number, card), ask)

    def assert_bad_order(self, one, other, order):
        for ask in (laid, parted):
            with self.assertRaises(BadWish) as caught:
                ask(one, other, order)
            self.assertEqual(caught.exception.why, "order", (ask, order))

    def test_the_first_deck(self):
        self.assert_unsorted(0, 1, read("2\n1"), [], RISING)
        self.assert_unsorted(0, 2, read("1\n3\n2\n4\n0"), read("1"), RISING)
        self.assert_unsorted(0, 3, read("1\n1\n3\n2"), read("1"), RISING)
        self.assert_unsorted(0, 1, read("1\n2"), read("1"), FALLING)

    def test_the_second_deck(self):
        self.assert_unsorted(1, 1, [], read("2\n1"), RISING)
        self.assert_unsorted(1, 3, read("1\n2"), read("1\n1\n1\n0"), RISING)
        self.assert_unsorted(1, 2, read("2\n1"), read("2\n1\n2"), FALLING)

    def test_both_decks(self):
        self.assert_unsorted(0, 3, read("1\n2\n3\n0"), read("2\n1"), RISING)

    def test_a_lesser_column(self):
        order = [(2, False), (0, True)]
        self.assert_unsorted(0, 2, read("2 1\n1 1\n2 1"), [], order)
        self.assert_unsorted(1, 1, read("2 1\n1 1\n2 2"), read("2 1\n9"), order)

    def test_a_column_beyond_the_card(self):
        self.assert_unsorted(0, 1, read("10\n1"), [], [(1, False)])
        self.assert_unsorted(1, 1, [], read("1\n10"), [(1, True)])

    def test_decks_in_order_are_not_refused(self):
        for order in ([], [(1, False)], [(1, True), (5, False)]):
            laid(read("2\n1\n2"), read("9\n8"), order)
            parted(read("2\n1\n2"), read("9\n8"), order)

    def test_wrong_orders(self):
        for order in BAD_ORDERS:
            self.assert_bad_order([], [], order)
            self.assert_bad_order(read("1"), read("2"), order)

    def test_a_wrong_order_ahead_of_an_unsorted_deck(self):
        for order in BAD_ORDERS:
            self.assert_bad_order(read("2\n1\n2"), read("2\n1\n2"), order)


class Unchanged(unittest.TestCase):

    def test_what_is_handed_in_is_not_changed(self):
        for order in (RISING, [], [(1, True)]):
            one, other = plainly(read("1A\n1B\n2A"), order), plainly(read("1C\n3"), order)
            kept = copy.deepcopy((one, other, order))
            laid(one, other, order)
            parted(one, other, order)
            self.assertEqual((one, other, order), kept)

    def test_what_is_given_back_may_be_changed(self):
        deck, none = read("1\n2"), []
        for told in (laid(deck, none, RISING), laid(none, deck, RISING), laid(deck, none, [])):
            told.clear()
        for told in (parted(deck, deck, RISING), parted(deck, none, RISING), parted(none, deck, [])):
            told[0].append("x")
            told[1].append("y")
            told[0].clear()
            told[1].clear()
        self.assertEqual((written(deck), none), ("1\n2", []))
        self.assertEqual(parted(deck, none, RISING), ([], deck))
        self.assertEqual(laid(deck, none, RISING), deck)


if __name__ == "__main__":
    unittest.main()
