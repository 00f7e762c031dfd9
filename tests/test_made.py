"""What is made of a wish, and what it prints: points 1, 6 and 13."""

import copy
import itertools
import random
import unittest

from holedeck.cards import read, written
from holedeck.errors import BadWire, BadWish
from holedeck.judge import judge
from holedeck.orders import passes_for, plainly
from holedeck.sorter import sorted_by
from holedeck.tables import Table, made, printed, wired, worked
from holedeck.wishes import page

SIGNS = " 0123456789-KLMNOPQRST+ABCDEFGHIJ"
ALL = tuple(range(12))
ORDER = [(0, False), (3, True), (1, False)]
BAD_ORDERS = ([(-1, False)], [(12, True)], [(3, False), (3, True)], [(column, False) for column in range(7)])
BAD_TEXTS = ("", "a", "1~", "\t")

# Fields that are as wide, as far left and as far right as can be, and one column of them.
FIELDS = ((0, 6), (6, 12), (0, 1), (11, 12), (4, 8))


def some_field(chance):
    begin = chance.randrange(12)
    return begin, chance.randint(begin + 1, min(12, begin + 6))


def some_wish(chance, columns=12):
    picked = chance.sample(range(columns), chance.randint(0, 6))
    order = [(column, chance.random() < 0.5) for column in picked]
    controls = chance.randint(0, min(3, len(order)))
    sums = [some_field(chance) for _ in range(chance.randint(0, 3))]
    shown = []
    for _ in range(chance.randint(0, 10)):
        begin, end = some_field(chance)
        if sum(last - first + 1 for first, last in shown) + end - begin + 1 <= 40:
            shown.append((begin, end))
    return order, controls, sums, shown, chance.random() < 0.5


def some_signs(chance):
    told = {}
    for column in chance.sample(range(12), chance.randint(0, 12)):
        told[column] = "".join(chance.choices(SIGNS, k=chance.randint(1, 6)))
    return told


def some_deck(chance, many, signs, plain=SIGNS):
    """A deck of cards of unlike widths; a told column is never beyond a card unless it may be blank."""
    rows = []
    least = max([column + 1 for column, text in signs.items() if " " not in text], default=1)
    for _ in range(many):
        width = chance.randint(least, 12)
        rows.append("".join(chance.choice(signs.get(column, plain)) for column in range(width)))
    return read("\n".join(rows))


class Wired(unittest.TestCase):

    def test_a_wiring_that_a_table_takes(self):
        chance = random.Random(131)
        for _ in range(60):
            watched, plugs, detail = wired(some_wish(chance))
            self.assertIsInstance(watched, list)
            self.assertIsInstance(plugs, list)
            self.assertIsInstance(detail, bool)
            Table((watched, plugs, detail))

    def test_it_prints_the_page_from_cards_in_order(self):
        chance = random.Random(132)
        for _ in range(80):
            wish = some_wish(chance)
            deck = some_deck(chance, chance.randint(0, 40), {}, chance.choice((SIGNS, " 1A", "19")))
            self.assertEqual(printed(plainly(deck, wish[0]), wired(wish)), page(deck, wish), wish)

    def test_no_cards(self):
        for controls in range(4):
            self.assertEqual(printed([], wired((ORDER, controls, [(0, 6)], [(0, 6)], True))), [])


class Made(unittest.TestCase):

    def assert_page(self, deck, wish, signs):
        """It is printed of the cards as they stand, turned round and in order."""
        passes, wiring = made(wish, signs)
        for cards in (deck, deck[::-1], plainly(deck, wish[0])):
            self.assertEqual(worked(cards, passes, wiring), page(cards, wish), (wish, signs))

    def test_its_passes(self):
        chance = random.Random(133)
        for _ in range(40):
            wish, signs = some_wish(chance), some_signs(chance)
            told = made(wish, signs)
            self.assertIsInstance(told, tuple)
            self.assertEqual(len(told), 2)
            self.assertEqual(told[0], passes_for(wish[0], signs))
            self.assertIsNone(judge(told[0], wish[0], signs))

    def test_a_small_page(self):
        wish = ([(0, True), (1, False)], 1, [(1, 3)], [(0, 1), (1, 3)], True)
        passes, wiring = made(wish, {0: "AB", 1: "123"})
        self.assertEqual(len(passes), 2)
        self.assertEqual(worked(read("A2\nB3\nA19\nB11\nA1"), passes, wiring), [
            "B 11".ljust(40), "B 3".ljust(40), "B 0002 00000041".ljust(39) + "1",
            "A 19".ljust(40), "A 1".ljust(40), "A 2".ljust(40), "A 0003 00000049".ljust(39) + "1",
            "  0005 00000090".ljust(39) + "0",
        ])

    def test_each_count_of_controls_and_sums(self):
        chance = random.Random(134)
        deck = some_deck(chance, 100, {}, " 12AK9")
        for controls, many, detail in itertools.product(range(4), range(4), (True, False)):
            for falling in (False, True):
                order = [(column, falling != (column == 3)) for column in (3, 0, 7, 11)]
                wish = (order, controls, list(FIELDS[:many]), [(0, 6), (6, 12)], detail)
                self.assert_page(deck, wish, {})

    def test_each_sum(self):
        chance = random.Random(135)
        deck = some_deck(chance, 100, {})
        for sums in itertools.permutations(FIELDS, 3):
            self.assert_page(deck, (ORDER, 1, list(sums), [], False), {})

    def test_sums_beyond_eight_figures(self):
        chance = random.Random(136)
        deck = read("\n".join("".join(chance.choices("9JT", k=12)) for _ in range(200)))
        wish = (ORDER, 1, [(0, 6), (6, 12), (1, 7)], [(0, 6)], True)
        self.assert_page(deck, wish, {})
        self.assertEqual(page(deck, wish)[-1], "  0200 99999800 99999800 99999800".ljust(39) + "0")

    def test_the_widest_lines(self):
        chance = random.Random(137)
        shown = [(0, 6), (6, 12), (1, 7), (2, 8), (3, 9), (8, 12)]
        self.assert_page(some_deck(chance, 100, {}), (ORDER, 3, list(FIELDS[:3]), shown, True), {})
        self.assert_page(some_deck(chance, 100, {}), (ORDER, 3, list(FIELDS[:3]), [(0, 1)] * 20, True), {})

    def test_told_signs(self):
        chance = random.Random(138)
        for _ in range(60):
            wish, signs = some_wish(chance), some_signs(chance)
            self.assert_page(some_deck(chance, chance.randint(0, 60), signs), wish, signs)

    def test_no_told_signs(self):
        chance = random.Random(139)
        for _ in range(60):
            wish = some_wish(chance)
            deck = some_deck(chance, chance.randint(0, 60), {}, chance.choice((SIGNS, " 1A", "-+K0")))
            self.assert_page(deck, wish, {})

    def test_two_hundred_cards(self):
        chance = random.Random(140)
        for _ in range(4):
            wish, signs = some_wish(chance), some_signs(chance)
            self.assert_page(some_deck(chance, 200, signs), wish, signs)
            self.assert_page(some_deck(chance, 200, {}, " 123AK"), wish, {})

    def test_cards_narrower_than_the_order(self):
        wish = ([(5, True), (0, False), (11, False)], 3, [(4, 8)], [(0, 6), (10, 12)], True)
        chance = random.Random(141)
        rows = ["".join(chance.choices(" 1A", k=chance.choice((1, 2, 6, 7)))) for _ in range(120)]
        self.assert_page(read("\n".join(rows)), wish, {})
        self.assert_page(read("\n".join(rows)), wish, {11: " "})

    def test_an_empty_order(self):
        self.assertEqual(made(([], 0, [], [], True), {})[0], [])
        self.assert_page(read("2\n1\n3"), ([], 0, [(0, 1)], [(0, 2)], True), {})

    def test_no_cards(self):
        self.assert_page([], (ORDER, 3, [(0, 6)], [(0, 6)], True), {})

    def test_like_cards_as_they_came(self):
        wish = ([(0, False)], 1, [], [(0, 3)], True)
        passes, wiring = made(wish, {})
        lines = worked(read("B1\nA2\nB3\nA1\nB2"), passes, wiring)
        self.assertEqual([text[:2] for text in lines], ["A2", "A1", "A ", "B1", "B3", "B2", "B ", "  "])

    def test_fewer_passes_do_not(self):
        wish = (ORDER, 2, [(0, 2)], [(0, 4)], True)
        signs = {0: "AB", 3: "01K"}
        passes, wiring = made(wish, signs)
        for at in range(len(passes)):
            fewer = passes[:at] + passes[at + 1:]
            deck = judge(fewer, ORDER, signs)
            self.assertNotEqual(sorted_by(deck, fewer), plainly(deck, ORDER))
            self.assertEqual(worked(deck, passes, wiring), page(deck, wish))


class Worked(unittest.TestCase):

    def test_it_passes_and_prints(self):
        chance = random.Random(142)
        deck = some_deck(chance, 50, {}, "123A ")
        for _ in range(20):
            passes = []
            for _ in range(chance.randint(0, 4)):
                places = tuple(hole for hole in range(12) if chance.random() < 0.5)
                passes.append((chance.randrange(12), places, chance.random() < 0.5))
            wiring = wired(some_wish(chance))
            self.assertEqual(worked(deck, passes, wiring), printed(sorted_by(deck, passes), wiring))

    def test_any_wiring(self):
        wiring = ([0], [("hole", 0, 0), ("count", 2), ("print", 2, 0, 39), ("head", 0, 20, 1)], True)
        self.assertEqual(worked(read("2\n1\n2"), [(0, (2,), False)], wiring), [
            "1".ljust(40), (" " * 20 + "1").ljust(39) + "1",
            "2".ljust(40), "2".ljust(40), (" " * 20 + "2").ljust(39) + "2", " " * 39 + "3",
        ])

    def test_a_wrong_wiring(self):
        for watched, plugs, at in (([12], [], -1), ([], [("level", 40)], 0)):
            with self.assertRaises(BadWire) as caught:
                worked(read("1"), [(0, ALL, False)], (watched, plugs, True))
            self.assertEqual(caught.exception.at, at)


class Refusals(unittest.TestCase):

    def assert_refused(self, why, wish, signs):
        with self.assertRaises(BadWish) as caught:
            made(wish, signs)
        self.assertEqual(caught.exception.why, why, (wish, signs))

    def test_orders_ahead_of_all(self):
        for order in BAD_ORDERS:
            self.assert_refused("order", (order, 0, [], [], True), {})
            self.assert_refused("order", (order, 4, [(0, 0)], [(0, 0)], True), {0: ""})

    def test_signs_ahead_of_what_wired_refuses(self):
        for text in BAD_TEXTS:
            self.assert_refused("signs", (ORDER, 0, [], [], True), {3: text})
            self.assert_refused("signs", (ORDER, 4, [], [], True), {0: "A", 3: text})
            self.assert_refused("signs", (ORDER, 0, [(0, 0)], [(0, 0)], True), {1: text})
            self.assert_refused("signs", (ORDER, 0, [], [(0, 6)] * 6, True), {1: text})

    def test_texts_of_other_columns_say_nothing(self):
        for text in BAD_TEXTS:
            self.assertEqual(made((ORDER, 0, [], [], True), {2: text, 11: text})[0], passes_for(ORDER, {}))
            self.assert_refused("controls", (ORDER, 4, [], [], True), {2: text})

    def test_what_wired_refuses(self):
        for signs in ({}, {0: "A", 3: "12"}):
            self.assert_refused("controls", (ORDER, -1, [(0, 0)], [], True), signs)
            self.assert_refused("sums", (ORDER, 3, [(0, 0)], [(0, 0)], True), signs)
            self.assert_refused("shown", (ORDER, 3, [], [(0, 7)] * 8, True), signs)
            self.assert_refused("wide", (ORDER, 3, [], [(0, 6)] * 6, True), signs)

    def test_wired_knows_no_signs(self):
        for order in BAD_ORDERS:
            with self.assertRaises(BadWish) as caught:
                wired((order, 4, [(0, 0)], [(0, 0)], True))
            self.assertEqual(caught.exception.why, "order")


class Unchanged(unittest.TestCase):

    def test_what_is_handed_in_is_not_changed(self):
        chance = random.Random(143)
        for _ in range(20):
            wish, signs = some_wish(chance), some_signs(chance)
            deck = some_deck(chance, 20, signs)
            kept = copy.deepcopy((wish, signs, deck))
            passes, wiring = made(wish, signs)
            wired(wish)
            told = copy.deepcopy((passes, wiring))
            worked(deck, passes, wiring)
            page(deck, wish)
            self.assertEqual((wish, signs, deck), kept)
            self.assertEqual((passes, wiring), told)

    def test_what_is_given_back_may_be_changed(self):
        wish, signs = (ORDER, 2, [(0, 2)], [(0, 4)], True), {0: "AB"}
        deck = read("A1\nB2\nA3")
        first = copy.deepcopy((made(wish, signs), wired(wish), worked(deck, *made(wish, signs))))
        passes, wiring = made(wish, signs)
        other = wired(wish)
        for changed in (worked(deck, passes, wiring), passes, wiring[0], wiring[1], other[0], other[1]):
            changed.append(("what",))
            changed.reverse()
            changed.clear()
        self.assertEqual((made(wish, signs), wired(wish), worked(deck, *made(wish, signs))), first)
        self.assertEqual((wish, signs), ((ORDER, 2, [(0, 2)], [(0, 4)], True), {0: "AB"}))
        self.assertEqual(ORDER, [(0, False), (3, True), (1, False)])
        self.assertEqual(written(deck), "A1\nB2\nA3")

    def test_the_wish_changed_behind_the_wiring(self):
        wish = ([(0, False), (1, True)], 1, [(0, 2)], [(0, 2)], True)
        deck = read("A1\nB2\nA3")
        expected = page(deck, wish)
        passes, wiring = made(wish, {})
        for changed in wish[0], wish[2], wish[3]:
            changed.clear()
        self.assertEqual(worked(deck, passes, wiring), expected)


if __name__ == "__main__":
    unittest.main()
