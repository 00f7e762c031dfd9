"""The judge of passes: points 1 and 7, and the last sentence of point 6."""

import copy
import itertools
import random
import unittest

from holedeck.cards import need_deck, read, sign_of
from holedeck.errors import BadWish
from holedeck.judge import judge
from holedeck.orders import passes_for, plainly
from holedeck.sorter import sorted_by

SIGNS = " 0123456789-KLMNOPQRST+ABCDEFGHIJ"
ALL = tuple(range(12))
FIGURES = tuple(range(10))
ABOVE = (10, 11)
# Columns that have but one sign, so that nothing comes of passes by them.
STILL = {column: " " for column in range(12)}

BAD_ORDERS = (
    [(-1, False)],
    [(12, True)],
    [(0, False), (12, False)],
    [(3, False), (3, True)],
    [(column, False) for column in range(7)],
)
BAD_TEXTS = ("", "a", "~", "1a", "\n", "A\tB", "a" + SIGNS, SIGNS + "?", "_", "*")


def some_order(chance, columns):
    picked = chance.sample(range(columns), chance.randint(0, min(6, columns)))
    return [(column, chance.random() < 0.5) for column in picked]


def some_places(chance):
    return tuple(hole for hole in range(12) if chance.random() < 0.5)


def some_signs(chance, columns, most):
    return {column: "".join(chance.choices(SIGNS, k=chance.randint(1, most))) for column in columns}


def changed(chance, passes, columns):
    """Passes with something changed, often a small thing."""
    passes = list(passes)
    what = chance.randrange(6)
    at = chance.randrange(len(passes)) if passes else 0
    if what == 0 or not passes:
        one = (chance.randrange(columns), some_places(chance), chance.random() < 0.5)
        passes.insert(chance.randint(0, len(passes)), one)
    elif what == 1:
        del passes[at]
    elif what == 2:
        other = chance.randrange(len(passes))
        passes[at], passes[other] = passes[other], passes[at]
    elif what == 3:
        passes[at] = (passes[at][0], some_places(chance), passes[at][2])
    elif what == 4:
        passes[at] = (passes[at][0], passes[at][1], not passes[at][2])
    else:
        passes.insert(chance.randint(0, len(passes)), passes[at])
    return passes


def lays_all(passes, order, signs):
    """Whether the passes lay every two cards that have signs of the first told columns only."""
    texts = [sorted(set(signs[column])) for column in sorted(signs)]
    cards = [read("".join(picked))[0] for picked in itertools.product(*texts)]
    return all(
        sorted_by([one, other], passes) == plainly([one, other], order)
        for one in cards for other in cards
    )


class Judging(unittest.TestCase):

    def assert_right(self, passes, order, signs):
        self.assertIsNone(judge(passes, order, signs), (passes, order, signs))

    def assert_wrong(self, passes, order, signs):
        """The passes are told to fail, with a deck that shows it."""
        told = (passes, order, signs)
        deck = judge(passes, order, signs)
        self.assertIsInstance(deck, list, told)
        self.assertEqual([len(card) for card in deck], [12, 12], told)
        need_deck(deck)
        for card in deck:
            self.assertIsInstance(card, tuple)
            for column, text in signs.items():
                if 0 <= column < 12:
                    self.assertIn(sign_of(card[column]), list(text), told)
        self.assertNotEqual(sorted_by(deck, passes), plainly(deck, order), told)

    def test_the_passes_that_are_made(self):
        self.assert_right(passes_for([(0, False)], {}), [(0, False)], {})
        self.assert_right(passes_for([(0, True)], {}), [(0, True)], {})
        order = [(11, True), (0, False), (5, True), (6, False), (2, True), (9, False)]
        self.assert_right(passes_for(order, {}), order, {})
        signs = {11: "19", 0: "ABK", 5: " ", 6: "-+", 2: "00", 9: SIGNS, 4: "7"}
        self.assert_right(passes_for(order, signs), order, signs)

    def test_the_passes_that_are_made_for_any_order(self):
        chance = random.Random(71)
        for _ in range(80):
            order = some_order(chance, 12)
            signs = some_signs(chance, chance.sample(range(12), chance.randint(0, 12)), 40)
            self.assert_right(passes_for(order, signs), order, signs)

    def test_one_left_out(self):
        chance = random.Random(72)
        for _ in range(60):
            order = some_order(chance, 12)
            signs = some_signs(chance, chance.sample(range(12), chance.randint(0, 12)), 8)
            passes = passes_for(order, signs)
            for at in range(len(passes)):
                self.assert_wrong(passes[:at] + passes[at + 1:], order, signs)

    def test_no_passes(self):
        self.assert_right([], [], {})
        self.assert_right([], [], {3: "AB"})
        self.assert_wrong([], [(0, False)], {})
        self.assert_wrong([], [(11, True)], {11: "01"})
        self.assert_right([], [(11, True)], {11: "1"})
        self.assert_right([], [(0, False), (4, True)], {0: "AAA", 4: " "})
        self.assert_wrong([], [(0, False), (4, True)], {0: "A"})

    def test_two_exchanged(self):
        order = [(0, False), (1, True)]
        passes = passes_for(order, {})
        self.assertEqual(len(passes), 4)
        for one, other in itertools.combinations(range(4), 2):
            turned = list(passes)
            turned[one], turned[other] = turned[other], turned[one]
            self.assert_wrong(turned, order, {})
        signs = {0: "12", 1: "AB"}
        passes = passes_for(order, signs)
        self.assertEqual(len(passes), 2)
        self.assert_wrong(passes[::-1], order, signs)
        self.assert_right(passes[::-1], order[::-1], signs)

    def test_exchanged_and_right_all_the_same(self):
        passes = [(0, ABOVE, False), (0, FIGURES, False)]
        self.assert_right(passes, [(0, False)], {0: "0KL"})
        self.assert_wrong(passes, [(0, False)], {0: "0KL1"})

    def test_other_places(self):
        order = [(0, False)]
        self.assert_right([(0, (2,), False)], order, {0: "12"})
        self.assert_wrong([(0, (1,), False)], order, {0: "12"})
        self.assert_wrong([(0, (3,), False)], order, {0: "12"})
        self.assert_wrong([(0, (), False)], order, {0: "12"})
        self.assert_right([(0, ALL, False)], order, {0: "12"})
        self.assert_right([(0, ALL, False)], order, {0: " 0123456789-+"})
        self.assert_wrong([(0, ALL, False)], order, {0: " 0123456789-+K"})
        self.assert_wrong([(0, FIGURES, False), (0, (10,), False)], order, {})
        self.assert_wrong([(0, FIGURES[1:], False), (0, ABOVE, False)], order, {})
        self.assert_wrong([(0, FIGURES[:-1], False), (0, ABOVE, False)], order, {})

    def test_the_other_falling(self):
        passes = [(0, FIGURES, False), (0, ABOVE, False)]
        self.assert_right(passes, [(0, False)], {})
        self.assert_wrong(passes, [(0, True)], {})
        self.assert_wrong([passes[0], (0, ABOVE, True)], [(0, False)], {})
        self.assert_wrong([(0, FIGURES, True), passes[1]], [(0, False)], {})
        self.assert_right([(0, FIGURES, True), (0, ABOVE, True)], [(0, True)], {})
        self.assert_right([(3, (5,), False)], [(3, False)], {3: "45"})
        self.assert_wrong([(3, (5,), True)], [(3, False)], {3: "45"})
        self.assert_right([(3, (4,), True)], [(3, False)], {3: "45"})
        self.assert_wrong([(3, (4,), True)], [(3, True)], {3: "45"})

    def test_a_column_beyond_the_order(self):
        made = passes_for([(0, False)], {})
        for places in (ALL, (0,), (11,)):
            for falls in (False, True):
                self.assert_wrong([(11, places, falls), *made], [(0, False)], {})
                self.assert_wrong([*made, (1, places, falls)], [(0, False)], {})
        self.assert_right([(11, ALL, False), *made], [(0, False)], {11: "7"})
        self.assert_right([(11, ALL, False), *made], [(0, False)], {11: "77"})
        self.assert_wrong([(11, ALL, False), *made], [(0, False)], {11: "78"})
        self.assert_right([(11, (1, 10), False), *made], [(0, False)], {11: "78"})
        self.assert_right([(11, (), True), *made], [(0, False)], {})
        self.assert_wrong([(4, (9,), True)], [], {})
        self.assert_right([(4, (9,), True)], [], {4: "9JT"})
        self.assert_wrong([(4, (9,), True)], [], {4: "9JT8"})

    def test_a_column_that_no_card_has(self):
        made = passes_for([(0, False)], {})
        self.assert_right([(12, ALL, False), *made, (-1, ALL, True)], [(0, False)], {})

    def test_one_undoes_another(self):
        signs = {0: "12", 1: "12"}
        rising, falls = (0, (1, 2), False), (0, (1, 2), True)
        self.assert_wrong([rising, falls], [(0, False)], signs)
        self.assert_right([falls, rising], [(0, False)], signs)
        self.assert_right([rising, falls], [(0, True)], signs)
        self.assert_right([rising, rising], [(0, False)], signs)
        self.assert_wrong([(1, (2,), False), (0, (2,), False), (1, (2,), True)], [(0, False), (1, False)], signs)
        again = [(0, (2,), True), (1, (2,), True), (1, (2,), False), (0, (2,), False)]
        self.assert_right(again, [(0, False), (1, False)], signs)
        self.assert_wrong(again, [(1, False), (0, False)], signs)
        # Nothing gives like cards the order back in which they came.
        self.assert_wrong([(1, (2,), False), (1, (2,), True)], [], signs)

    def test_told_texts(self):
        self.assert_right([(0, (1,), False)], [(0, False)], {0: "10"})
        self.assert_right([(0, (1,), False)], [(0, False)], {0: "0110"})
        self.assert_wrong([(0, (1,), False)], [(0, False)], {0: "012"})
        self.assert_wrong([(0, (1,), False)], [(0, False)], {1: "01"})
        self.assert_right([(0, (11,), False)], [(0, False)], {0: "AT"})
        self.assert_right([(0, (9,), False)], [(0, True)], {0: "AT"})
        self.assert_wrong([(0, (0,), False)], [(0, True)], {0: "AT"})

    def test_two_neighbours_of_all_signs_come_out_alike(self):
        for at, (one, other) in enumerate(zip(SIGNS, SIGNS[1:])):
            falling = at % 2 == 0
            order = [(7, falling)]
            self.assert_wrong([], order, {7: other + one})
            passes = passes_for(order, {7: SIGNS})
            self.assert_right(passes, order, {7: other + one})
            self.assert_wrong([(7, places, not falls) for _, places, falls in passes], order, {7: other + one})

    def test_two_keys_against_one_another(self):
        order = [(2, True), (8, False)]
        signs = {2: "01A", 8: "5 "}
        lesser, greater, last = (8, (5,), False), (2, (0,), False), (2, (11,), True)
        self.assert_right([lesser, greater, last], order, signs)
        self.assert_wrong([greater, last, lesser], order, signs)
        # Only the 0 and the 1 are told apart too early here.
        early = [greater, lesser, last]
        self.assert_wrong(early, order, signs)
        self.assert_wrong(early, order, {2: "01", 8: "5 "})
        self.assert_right(early, order, {2: "0A", 8: "5 "})
        self.assert_right(early, order, {2: "1A", 8: "5 "})
        self.assert_right(early, order, {2: "01A", 8: "5"})
        self.assert_wrong(early, order[:1], {2: "1A", 8: "5 "})

    def test_the_two_of_three_keys(self):
        signs = {1: "12", 4: "12", 7: "12"}
        by = {column: (column, (2,), False) for column in signs}
        order = [(1, False), (4, False), (7, False)]
        for picked in itertools.permutations((1, 4, 7)):
            passes = [by[column] for column in picked]
            if picked == (7, 4, 1):
                self.assert_right(passes, order, signs)
            else:
                self.assert_wrong(passes, order, signs)

    def test_as_comparing_all_cards_tells(self):
        chance = random.Random(73)
        found = {True: 0, False: 0}
        for _ in range(500):
            most = chance.choice((2, 2, 2, 3))
            signs = some_signs(chance, range(3), most)
            order = some_order(chance, 3)
            passes = passes_for(order, signs)
            for _ in range(chance.randint(0, 2)):
                passes = changed(chance, passes, 3)
            right = lays_all(passes, order, signs)
            found[right] += 1
            if right:
                self.assert_right(passes, order, signs)
            else:
                self.assert_wrong(passes, order, signs)
        self.assertGreater(min(found.values()), 100)

    def test_changed_passes_over_all_columns(self):
        chance = random.Random(74)
        found = {True: 0, False: 0}
        for _ in range(150):
            signs = some_signs(chance, chance.sample(range(12), chance.randint(0, 12)), 5)
            order = some_order(chance, 12)
            passes = changed(chance, passes_for(order, signs), 12)
            right = judge(passes, order, signs) is None
            found[right] += 1
            if not right:
                self.assert_wrong(passes, order, signs)
                continue
            for _ in range(10):
                card = [chance.choice(signs.get(column, SIGNS)) for column in range(12)]
                other = [chance.choice((sign, chance.choice(signs.get(at, SIGNS)))) for at, sign in enumerate(card)]
                deck = read("".join(card) + "\n" + "".join(other))
                self.assertEqual(sorted_by(deck, passes), plainly(deck, order))
        self.assertGreater(min(found.values()), 10)

    def test_many_passes(self):
        order = [(column, column > 2) for column in range(6)]
        passes = passes_for(order, {})
        self.assert_right(passes * 20, order, {})
        self.assert_wrong(passes * 20 + passes[:1], order, {})
        self.assert_wrong(passes[1:] * 20, order, {})


class NoFewerDo(unittest.TestCase):

    def test_one_pass_where_two_are_told(self):
        chance = random.Random(61)
        tried = 0
        while tried < 12:
            text = "".join(chance.choices(SIGNS, k=chance.randint(3, 5)))
            order = [(6, chance.random() < 0.5)]
            signs = {**STILL, 6: text}
            if len(passes_for(order, signs)) == 2:
                tried += 1
                self.assert_no_single_pass(text, order, signs)

    def assert_no_single_pass(self, text, order, signs):
        holes = sorted({hole for sign in text for hole in read(sign)[0][0]})
        self.assertIsNotNone(judge([], order, signs))
        for many in range(len(holes) + 1):
            for places in itertools.combinations(holes, many):
                for falls in (False, True):
                    self.assertIsNotNone(judge([(6, places, falls)], order, signs))
                    self.assertIsNotNone(judge([(5, places, falls)], order, signs))

    def test_no_pass_by_a_column_that_needs_one(self):
        order = [(0, False), (1, True), (2, False)]
        signs = {0: "12", 1: "AK", 2: "3"}
        made = passes_for(order, signs)
        self.assertEqual([one[0] for one in made], [1, 0])
        for by in range(12):
            for other in range(12):
                if {by, other} != {0, 1}:
                    deck = judge([(by, ALL, True), (other, ALL, False)], order, signs)
                    self.assertIsNotNone(deck)


class Refusals(unittest.TestCase):

    def assert_refused(self, why, *told):
        with self.assertRaises(BadWish) as caught:
            judge(*told)
        self.assertEqual(caught.exception.why, why, told)

    def test_wrong_orders(self):
        for order in BAD_ORDERS:
            self.assert_refused("order", [], order, {})
            self.assert_refused("order", [(0, ALL, False)], order, {0: "A"})

    def test_wrong_texts(self):
        for text in BAD_TEXTS:
            for column in (0, 4, 11):
                self.assert_refused("signs", [], [(4, False)], {column: text})
                self.assert_refused("signs", [(0, ALL, False)], [], {3: "A", column: text})
            self.assert_refused("signs", [], [(4, False)], {4: text, 5: text})

    def test_a_wrong_order_ahead_of_a_wrong_text(self):
        for order in BAD_ORDERS:
            self.assert_refused("order", [], order, {0: "", 5: "a"})

    def test_a_text_of_no_column_says_nothing(self):
        self.assertIsNone(judge([], [], {12: "", -1: "a", 100: "~"}))

    def test_passes_for_refuses_only_texts_of_the_order(self):
        self.assertEqual(passes_for([(4, False)], {4: "A", 5: ""}), [])
        self.assert_refused("signs", [], [(4, False)], {4: "A", 5: ""})


class Unchanged(unittest.TestCase):

    def test_what_is_handed_in_is_not_changed(self):
        order = [(0, False), (3, True)]
        signs = {0: "AAB", 5: "12"}
        for passes in (passes_for(order, signs), [(5, ALL, False)], []):
            kept = copy.deepcopy((passes, order, signs))
            judge(passes, order, signs)
            self.assertEqual((passes, order, signs), kept)

    def test_asked_again_with_the_same_answer(self):
        order, signs = [(0, False)], {0: "AB"}
        told = judge([], order, signs)
        kept = copy.deepcopy(told)
        told.clear()
        self.assertEqual(judge([], order, signs), kept)


if __name__ == "__main__":
    unittest.main()
