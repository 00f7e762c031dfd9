"""Orders and the passes that lay decks in them: points 1, 4 and 6."""

import copy
import functools
import itertools
import random
import unittest

from holedeck import orders
from holedeck.cards import read, written
from holedeck.errors import BadWish
from holedeck.orders import passes_for, plainly
from holedeck.sorter import passed, sorted_by

# The signs in order: none above, 10, 11, and for each no figure, then 0 to 9.
SIGNS = " 0123456789-KLMNOPQRST+ABCDEFGHIJ"
FIGURES = tuple(range(10))
ABOVE = (10, 11)

BAD_ORDERS = (
    [(-1, False)],
    [(12, False)],
    [(0, False), (12, True)],
    [(0, False), (-1, True)],
    [(100, True)],
    [(3, False), (3, False)],
    [(3, False), (3, True)],
    [(0, False), (1, True), (0, False)],
    [(column, False) for column in range(7)],
    [(column, True) for column in range(12)],
    [(0, False)] * 7,
)


def holes_of(sign):
    return read(sign)[0][0]


def some_deck(chance, many, signs, widest=12):
    """A deck of cards of unlike widths; a told column is never beyond a card unless it may be blank."""
    rows = []
    for _ in range(many):
        least = max([column + 1 for column, text in signs.items() if " " not in text], default=1)
        width = chance.randint(least, max(least, widest))
        rows.append("".join(chance.choice(signs.get(column, SIGNS)) for column in range(width)))
    return read("\n".join(rows))


def some_order(chance, columns=12):
    picked = chance.sample(range(columns), chance.randint(0, min(6, columns)))
    return [(column, chance.random() < 0.5) for column in picked]


def by_the_document(deck, order):
    """A deck in order, by comparing two cards as the document says it."""
    def compare(one, other):
        for column, falling in order:
            mine = written([one[column:column + 1] or ((),)])
            its = written([other[column:column + 1] or ((),)])
            if mine != its:
                ahead = SIGNS.index(mine) < SIGNS.index(its)
                return -1 if ahead != falling else 1
        return 0
    return sorted(deck, key=functools.cmp_to_key(compare))


def lays(columns, places, falls):
    """Whether a pass lays the columns as they stand, in whatever order they come."""
    numbers = []
    for holes in columns:
        had = [place + 1 for place in places if place in holes]
        numbers.append(min(had, default=0))
    if falls:
        return all(ahead > behind for ahead, behind in zip(numbers, numbers[1:]))
    return all(ahead < behind for ahead, behind in zip(numbers, numbers[1:]))


def expected_passes(column, falling, text):
    """The passes of one column, found by trying them all."""
    ahead = [holes_of(sign) for sign in sorted(set(text), key=SIGNS.index, reverse=falling)]
    if len(ahead) == 1:
        return []
    for many in range(13):
        for places in itertools.combinations(range(12), many):
            for falls in (falling, not falling):
                if lays(ahead, places, falls):
                    return [(column, places, falls)]
    return [(column, FIGURES, falling), (column, ABOVE, falling)]


class Plainly(unittest.TestCase):

    def test_all_signs(self):
        deck = read("\n".join(sorted(SIGNS)))
        self.assertEqual(written(plainly(deck, [(0, False)])), "\n".join(SIGNS))
        self.assertEqual(written(plainly(deck, [(0, True)])), "\n".join(SIGNS[::-1]))
        self.assertEqual(plainly(deck[::-1], [(0, False)]), plainly(deck, [(0, False)]))

    def test_the_first_unlike_column_counts(self):
        deck = read("2A\n1B\n2B\n1A")
        self.assertEqual(written(plainly(deck, [(0, False), (1, False)])), "1A\n1B\n2A\n2B")
        self.assertEqual(written(plainly(deck, [(0, False), (1, True)])), "1B\n1A\n2B\n2A")
        self.assertEqual(written(plainly(deck, [(0, True), (1, False)])), "2A\n2B\n1A\n1B")
        self.assertEqual(written(plainly(deck, [(1, False), (0, False)])), "1A\n2A\n1B\n2B")
        self.assertEqual(written(plainly(deck, [(1, True), (0, True)])), "2B\n1B\n2A\n1A")

    def test_like_cards_as_they_came(self):
        deck = read("2A\n1B\n2B\n1A\n2A")
        self.assertEqual(written(plainly(deck, [(0, False)])), "1B\n1A\n2A\n2B\n2A")
        self.assertEqual(written(plainly(deck, [(0, True)])), "2A\n2B\n2A\n1B\n1A")
        self.assertEqual(plainly(deck, [(2, False), (11, True)]), deck)

    def test_no_order(self):
        deck = read("2\n1\n3")
        self.assertEqual(plainly(deck, []), deck)

    def test_the_empty_deck(self):
        self.assertEqual(plainly([], [(0, False)]), [])
        self.assertEqual(plainly([], []), [])

    def test_a_column_beyond_the_card_has_no_holes(self):
        deck = read("A1\nA\nA0\nA \n+ ")
        self.assertEqual(written(plainly(deck, [(1, False)])), "A\nA \n+ \nA0\nA1")
        self.assertEqual(written(plainly(deck, [(1, True)])), "A1\nA0\nA\nA \n+ ")
        self.assertEqual(plainly(deck, [(11, False)]), deck)

    def test_columns_0_and_11(self):
        deck = read("2          1\n1          2\n2\n1          1")
        by_last = [deck[2], deck[0], deck[3], deck[1]]
        self.assertEqual(plainly(deck, [(11, False)]), by_last)
        self.assertEqual(plainly(deck, [(0, True), (11, True)]), [deck[0], deck[2], deck[1], deck[3]])

    def test_six_columns(self):
        order = [(0, False), (1, True), (2, False), (3, True), (4, False), (5, True)]
        deck = read("111112\n111111\n111121\n111111\n111211\n112111\n121111\n211111")
        expected = [deck[6], deck[4], deck[0], deck[1], deck[3], deck[2], deck[5], deck[7]]
        self.assertEqual(plainly(deck, order), expected)

    def test_more_than_200_cards_are_no_error(self):
        deck = read("2\n1") * 120
        self.assertEqual(plainly(deck, [(0, False)]), read("1") * 120 + read("2") * 120)

    def test_cards_that_cannot_be_are_no_error(self):
        deck = [((0, 1),), (), ((5,),) * 13, ((12,),), ((10, 11),)]
        self.assertEqual(len(plainly(deck, [(0, False), (11, True)])), 5)

    def test_by_the_words_of_the_document(self):
        chance = random.Random(8)
        for _ in range(80):
            deck = some_deck(chance, chance.randint(1, 40), {0: " 1A", 2: "-+K"}, 4)
            order = some_order(chance, 5)
            self.assertEqual(plainly(deck, order), by_the_document(deck, order))

    def test_bad_orders(self):
        for order in BAD_ORDERS:
            for deck in ([], read("1\n2")):
                with self.assertRaises(BadWish) as caught:
                    plainly(deck, order)
                self.assertEqual(caught.exception.why, "order")

    def test_nothing_is_changed_and_what_is_given_back_is_free(self):
        deck = read("2A\n1B\n2B\n1A")
        for order in ([(0, False), (1, True)], []):
            kept = copy.deepcopy((deck, order))
            first = plainly(deck, order)
            again = list(first)
            first.clear()
            self.assertEqual((deck, order), kept)
            self.assertEqual(plainly(deck, order), again)

    def test_defined_where_the_interface_lists_it(self):
        for name in ("plainly", "passes_for"):
            self.assertEqual(getattr(orders, name).__module__, "holedeck.orders")


class PassesFor(unittest.TestCase):

    def check(self, falling, text, *expected):
        """The passes of column 4, told without it."""
        found = passes_for([(4, falling)], {4: text})
        self.assertEqual(found, [(4, places, falls) for places, falls in expected], (falling, text))

    def test_one_sign(self):
        for sign in SIGNS:
            for falling in (False, True):
                self.check(falling, sign)
                self.check(falling, sign * 3)

    def test_one_pass_with_the_columns_own_falling(self):
        self.check(False, " 0", ((0,), False))
        self.check(True, " 0", ((0,), True))
        self.check(False, "0123456789", (tuple(range(1, 10)), False))
        self.check(True, "0123456789", (tuple(range(1, 10)), True))
        self.check(False, " 0123456789", (FIGURES, False))
        self.check(False, "01K", ((1, 10), False))
        self.check(False, "TB", ((1,), False))
        self.check(False, " 0123456789-+", (tuple(range(12)), False))
        self.check(True, " 0123456789-+", (tuple(range(12)), True))

    def test_one_pass_with_the_other_falling(self):
        self.check(False, "5-", ((5,), True))
        self.check(True, "5-", ((5,), False))
        self.check(False, "-+", ((10,), True))
        self.check(True, "-+", ((10,), False))
        self.check(False, "KB", ((0,), True))
        self.check(True, "KB", ((0,), False))

    def test_the_fewest_places_ahead_of_the_least_tuple(self):
        self.check(False, "0A", ((11,), False))
        self.check(False, "12", ((1,), True))
        self.check(True, "89", ((8,), False))
        self.check(False, "123", ((2, 3), False))
        self.check(False, "AB", ((0,), True))

    def test_two_passes(self):
        for text in ("01KL", "KLAB", "5O4N", "0K 1L-", SIGNS):
            for falling in (False, True):
                self.check(falling, text, (FIGURES, falling), (ABOVE, falling))

    def test_signs_twice_and_in_another_order(self):
        for text, other in (("5-", "-5-5-5"), ("0123", "3210321"), ("01KL", "LLK1K0"), (" ", "    ")):
            for falling in (False, True):
                found = passes_for([(2, falling)], {2: other})
                self.assertEqual(found, passes_for([(2, falling)], {2: text}))

    def test_columns_that_are_not_told(self):
        self.assertEqual(
            passes_for([(0, False), (11, True)], {5: "1"}),
            [(11, FIGURES, True), (11, ABOVE, True), (0, FIGURES, False), (0, ABOVE, False)],
        )

    def test_from_the_last_column_to_the_first(self):
        order = [(7, True), (0, False), (3, False), (11, True)]
        signs = {7: "5-", 0: "12", 3: "A", 11: "123", 5: "x"}
        self.assertEqual(passes_for(order, signs), [(11, (2, 3), True), (0, (1,), True), (7, (5,), False)])

    def test_no_order(self):
        self.assertEqual(passes_for([], {}), [])
        self.assertEqual(passes_for([], {0: "12"}), [])

    def test_all_pairs_of_signs(self):
        for pair in itertools.combinations(SIGNS, 2):
            for falling in (False, True):
                text = "".join(pair)
                self.assertEqual(passes_for([(1, falling)], {1: text}), expected_passes(1, falling, text))

    def test_some_texts(self):
        chance = random.Random(9)
        for _ in range(120):
            text = "".join(chance.choice(SIGNS) for _ in range(chance.randint(1, 7)))
            falling = chance.random() < 0.5
            self.assertEqual(passes_for([(0, falling)], {0: text}), expected_passes(0, falling, text), text)

    def test_texts_that_one_pass_lays(self):
        chance = random.Random(10)
        for _ in range(60):
            figures = sorted(chance.sample(range(10), chance.randint(0, 10)))
            text = "".join("0123456789"[figure] for figure in figures)
            text += chance.choice(("", " ", "-", "+", "-+", " -", " -+", "K", "J"))
            if text:
                falling = chance.random() < 0.5
                self.assertEqual(passes_for([(0, falling)], {0: text}), expected_passes(0, falling, text), text)

    def test_the_passes_lay_as_plainly_does(self):
        chance = random.Random(11)
        for _ in range(60):
            order = some_order(chance)
            signs = {
                column: "".join(chance.choice(SIGNS) for _ in range(chance.randint(1, 5)))
                for column in range(12) if chance.random() < 0.7
            }
            deck = some_deck(chance, chance.randint(1, 60), signs)
            self.assertEqual(sorted_by(deck, passes_for(order, signs)), plainly(deck, order))

    def test_like_cards_stay_as_they_came(self):
        chance = random.Random(12)
        for _ in range(30):
            deck = some_deck(chance, 80, {0: "12-", 1: " 5"}, 3)
            order = [(1, chance.random() < 0.5), (0, chance.random() < 0.5)]
            for signs in ({0: "12-", 1: " 5"}, {0: "2-1"}, {}):
                self.assertEqual(sorted_by(deck, passes_for(order, signs)), plainly(deck, order))

    def test_two_cards_in_both_orders(self):
        for text in ("5-", "-+", "0123", "01K", "TB", "A0"):
            for falling in (False, True):
                passes = passes_for([(0, falling)], {0: text})
                self.assertEqual(len(passes), 1)
                for pair in itertools.permutations(read("\n".join(text)), 2):
                    self.assertEqual(passed(list(pair), passes[0]), plainly(list(pair), [(0, falling)]))

    def test_kinds_of_what_is_told(self):
        for one in passes_for([(0, False), (1, True), (2, False)], {0: "5-", 1: "12"}):
            self.assertIs(type(one), tuple)
            self.assertIs(type(one[0]), int)
            self.assertIs(type(one[1]), tuple)
            self.assertIs(type(one[2]), bool)


class PassesForRefuses(unittest.TestCase):

    def refused(self, order, signs):
        with self.assertRaises(BadWish) as caught:
            passes_for(order, signs)
        return caught.exception.why

    def test_bad_orders(self):
        for order in BAD_ORDERS:
            self.assertEqual(self.refused(order, {}), "order")
            self.assertEqual(self.refused(order, {0: "1", 3: "12"}), "order")

    def test_six_columns_are_let_by(self):
        order = [(column, False) for column in range(6, 12)]
        self.assertEqual(passes_for(order, {column: "1" for column in range(12)}), [])

    def test_bad_signs(self):
        for text in ("", "a", "12a", "a12", "1\t2", "1\n2", "U", "?", "~", "12z3"):
            self.assertEqual(self.refused([(2, False)], {2: text}), "signs")
            self.assertEqual(self.refused([(0, False), (2, True)], {2: text, 0: "1"}), "signs")
            self.assertEqual(self.refused([(2, False), (0, True)], {2: text, 0: "1"}), "signs")

    def test_bad_signs_of_the_edge_columns(self):
        self.assertEqual(self.refused([(0, False)], {0: ""}), "signs")
        self.assertEqual(self.refused([(11, False)], {11: "k"}), "signs")

    def test_the_order_is_told_first(self):
        self.assertEqual(self.refused([(2, False), (2, False)], {2: ""}), "order")
        self.assertEqual(self.refused([(2, False), (12, False)], {2: "a"}), "order")

    def test_signs_of_a_column_that_is_not_in_the_order(self):
        for text in ("", "a", "1\t"):
            self.assertEqual(passes_for([(2, False)], {2: " 0", 3: text}), [(2, (0,), False)])
            self.assertEqual(passes_for([], {0: text}), [])


class NothingIsKept(unittest.TestCase):

    def test_nothing_is_changed_and_what_is_given_back_is_free(self):
        order = [(7, True), (0, False), (3, False)]
        signs = {7: "5-", 0: "321321", 4: ""}
        kept = copy.deepcopy((order, signs))
        first = passes_for(order, signs)
        again = list(first)
        first.clear()
        self.assertEqual(passes_for(order, signs), again)
        none = passes_for([(1, False)], {1: "A"})
        none.append((1, (), False))
        self.assertEqual(passes_for([(1, False)], {1: "A"}), [])
        two = passes_for([(1, False)], {})
        two.pop()
        self.assertEqual(passes_for([(1, False)], {}), [(1, FIGURES, False), (1, ABOVE, False)])
        self.assertEqual((order, signs), kept)

    def test_refusals_come_again(self):
        order, signs = [(1, False)], {1: ""}
        for _ in range(2):
            with self.assertRaises(BadWish):
                passes_for(order, signs)
        self.assertEqual((order, signs), ([(1, False)], {1: ""}))


if __name__ == "__main__":
    unittest.main()
