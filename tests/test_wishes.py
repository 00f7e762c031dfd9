"""Wishes and their pages: points 1, 9 and 10."""

import copy
import itertools
import random
import unittest

from holedeck.cards import read, sign_of
from holedeck.errors import BadWish
from holedeck.orders import plainly
from holedeck.tables import made, wired
from holedeck.wishes import page

SIGNS = " 0123456789-KLMNOPQRST+ABCDEFGHIJ"
FIGURES_OF = dict(zip(SIGNS, "00123456789" * 3))
THREE = [(0, False), (1, False), (2, False)]

BAD_ORDERS = (
    [(-1, False)],
    [(12, True)],
    [(0, False), (12, False)],
    [(3, False), (3, True)],
    [(column, False) for column in range(7)],
)
BAD_FIELDS = ((0, 0), (3, 2), (0, 7), (6, 13), (7, 13), (12, 13), (-1, 2), (-1, 0), (12, 12), (5, 12), (0, 12), (11, 0))
GOOD_FIELDS = ((0, 1), (0, 6), (6, 12), (11, 12), (5, 11), (3, 4), (3, 5))


def card_line(text):
    return text.ljust(40)


def total(text, level):
    return text.ljust(39) + str(level)


def sign_at(card, column):
    return sign_of(card[column]) if column < len(card) else " "


def by_the_document(deck, wish):
    """A page, each total of which looks for its cards among all of them."""
    order, controls, sums, shown, detail = wish
    cards = plainly(deck, order)
    keys = ["".join(sign_at(card, column) for column, _ in order[:controls]) for card in cards]
    lines = []
    for at, card in enumerate(cards):
        if detail:
            fields = ["".join(sign_at(card, column) for column in range(*field)) for field in shown]
            lines.append(card_line(" ".join(fields)))
        for level in range(controls, -1, -1):
            head = keys[at][:level]
            if at + 1 == len(cards) or keys[at + 1][:level] != head:
                group = [one for one, key in zip(cards, keys) if key[:level] == head]
                text = head + " " * (controls - level) + " " + str(10 ** 4 + len(group))[-4:]
                for field in sums:
                    numbers = [
                        int("".join(FIGURES_OF[sign_at(one, column)] for column in range(*field))) for one in group
                    ]
                    text += " " + str(10 ** 8 + sum(numbers))[-8:]
                lines.append(total(text, level))
    return lines


def some_field(chance):
    begin = chance.randrange(12)
    return begin, chance.randint(begin + 1, min(12, begin + 6))


def some_wish(chance):
    picked = chance.sample(range(12), chance.randint(0, 6))
    order = [(column, chance.random() < 0.5) for column in picked]
    controls = chance.randint(0, min(3, len(order)))
    sums = [some_field(chance) for _ in range(chance.randint(0, 3))]
    shown = []
    for _ in range(chance.randint(0, 10)):
        begin, end = some_field(chance)
        if sum(last - first + 1 for first, last in shown) + end - begin + 1 <= 40:
            shown.append((begin, end))
    return order, controls, sums, shown, chance.random() < 0.5


def some_deck(chance, many, signs, least=1):
    rows = ["".join(chance.choice(signs) for _ in range(chance.randint(least, 12))) for _ in range(many)]
    return read("\n".join(rows))


class Wishes(unittest.TestCase):

    def assert_refused(self, why, wish):
        """The word is told by page, wired and made."""
        for ask in (lambda: page([], wish), lambda: page(read("1"), wish), lambda: wired(wish), lambda: made(wish, {})):
            with self.assertRaises(BadWish) as caught:
                ask()
            self.assertEqual(caught.exception.why, why, wish)

    def assert_taken(self, wish):
        self.assertEqual(page([], wish), [])
        wired(wish)
        made(wish, {})

    def test_orders(self):
        for order in BAD_ORDERS:
            self.assert_refused("order", (order, 0, [], [], True))
        self.assert_taken(([(column, True) for column in range(6)], 0, [], [], True))
        self.assert_taken(([], 0, [], [], False))

    def test_controls(self):
        for controls in (0, 1, 2, 3):
            self.assert_taken((THREE, controls, [], [], True))
            self.assert_taken(([*THREE, (7, True)], controls, [], [], True))
            self.assert_taken((THREE[:controls], controls, [], [], True))
        for controls in (-1, 4, 5, -3):
            self.assert_refused("controls", (THREE, controls, [], [], True))
            self.assert_refused("controls", ([*THREE, (7, True), (8, True)], controls, [], [], False))

    def test_more_controls_than_the_order_has_columns(self):
        for many in (0, 1, 2):
            for controls in range(many + 1, 5):
                self.assert_refused("controls", (THREE[:many], controls, [], [], True))

    def test_sums(self):
        for many in range(4):
            self.assert_taken((THREE, 1, [(0, 1)] * many, [], True))
        self.assert_refused("sums", (THREE, 1, [(0, 1)] * 4, [], True))
        self.assert_refused("sums", (THREE, 1, [(0, 1), (1, 2), (2, 3), (3, 4), (4, 5)], [], True))

    def test_fields_of_sums(self):
        for field in GOOD_FIELDS:
            self.assert_taken((THREE, 1, [field], [], True))
            self.assert_taken((THREE, 1, [field, field, field], [], True))
        for field in BAD_FIELDS:
            self.assert_refused("sums", (THREE, 1, [field], [], True))
            self.assert_refused("sums", (THREE, 1, [(0, 1), (1, 2), field], [], True))

    def test_fields_shown(self):
        for field in GOOD_FIELDS:
            self.assert_taken((THREE, 1, [], [field], True))
            self.assert_taken((THREE, 1, [], [field] * 5, False))
        for field in BAD_FIELDS:
            self.assert_refused("shown", (THREE, 1, [], [field], True))
            self.assert_refused("shown", (THREE, 1, [], [(0, 1), field], False))

    def test_as_wide_as_can_be(self):
        # 7 signs for each field of six columns: 35 signs, and then some.
        five = [(0, 6), (6, 12), (1, 7), (2, 8), (3, 9)]
        self.assert_taken((THREE, 1, [], [*five, (0, 4)], True))
        self.assert_refused("wide", (THREE, 1, [], [*five, (0, 5)], True))
        self.assert_refused("wide", (THREE, 1, [], [*five, (0, 5)], False))
        self.assert_taken((THREE, 1, [], [(3, 4)] * 20, True))
        self.assert_refused("wide", (THREE, 1, [], [(3, 4)] * 21, True))
        self.assert_refused("wide", (THREE, 1, [], [(3, 4)] * 19 + [(3, 5)], True))
        self.assert_taken((THREE, 1, [], [(3, 4)] * 17 + [(3, 8)], True))

    def test_the_first_word_of_several(self):
        wrong = {
            "order": lambda wish: ([(12, False)],) + wish[1:],
            "controls": lambda wish: (wish[0], 4) + wish[2:],
            "sums": lambda wish: wish[:2] + ([(0, 0)],) + wish[3:],
            "shown": lambda wish: wish[:3] + ([*wish[3], (0, 7)],) + wish[4:],
            "wide": lambda wish: wish[:3] + ([*wish[3], *[(0, 6)] * 6],) + wish[4:],
        }
        words = list(wrong)
        for many in range(1, 6):
            for picked in itertools.combinations(words, many):
                wish = (THREE, 1, [], [], True)
                for word in picked:
                    wish = wrong[word](wish)
                self.assert_refused(picked[0], wish)

    def test_too_many_sums_ahead_of_a_bad_field_shown(self):
        self.assert_refused("sums", (THREE, 1, [(0, 1)] * 4, [(0, 0)], True))
        self.assert_refused("sums", (THREE, 1, [(0, 1)] * 4, [(0, 6)] * 6, True))
        self.assert_refused("controls", (THREE[:2], 3, [(0, 1)] * 4, [(0, 0)], True))


class Pages(unittest.TestCase):

    def test_no_cards(self):
        for controls in range(4):
            for detail in (True, False):
                self.assertEqual(page([], (THREE, controls, [(0, 1)], [(0, 2)], detail)), [])

    def test_no_controls(self):
        deck = read("2\n1\n3")
        lines = [card_line("1"), card_line("2"), card_line("3"), total(" 0003 00000006", 0)]
        self.assertEqual(page(deck, (THREE, 0, [(0, 1)], [(0, 1)], True)), lines)
        self.assertEqual(page(deck, (THREE, 0, [(0, 1)], [(0, 1)], False)), lines[3:])
        self.assertEqual(page(deck, ([], 0, [], [], False)), [total(" 0003", 0)])
        self.assertEqual(page(deck, ([], 0, [], [(0, 1)], True)),
                         [card_line("2"), card_line("1"), card_line("3"), total(" 0003", 0)])

    def test_one_control(self):
        deck = read("B2\nA1\nB1\nA9")
        self.assertEqual(page(deck, (THREE, 1, [(1, 2)], [(0, 2)], True)), [
            card_line("A1"), card_line("A9"), total("A 0002 00000010", 1),
            card_line("B1"), card_line("B2"), total("B 0002 00000003", 1),
            total("  0004 00000013", 0),
        ])

    def test_two_controls(self):
        deck = read("B2\nA1\nB1\nA9\nB2")
        self.assertEqual(page(deck, (THREE, 2, [], [(1, 2), (0, 1)], True)), [
            card_line("1 A"), total("A1 0001", 2),
            card_line("9 A"), total("A9 0001", 2),
            total("A  0002", 1),
            card_line("1 B"), total("B1 0001", 2),
            card_line("2 B"), card_line("2 B"), total("B2 0002", 2),
            total("B  0003", 1),
            total("   0005", 0),
        ])

    def test_three_controls(self):
        deck = read("211\n112\n111\n211")
        self.assertEqual(page(deck, (THREE, 3, [(0, 3), (2, 3), (0, 1)], [], False)), [
            total("111 0001 00000111 00000001 00000001", 3),
            total("112 0001 00000112 00000002 00000001", 3),
            total("11  0002 00000223 00000003 00000002", 2),
            total("1   0002 00000223 00000003 00000002", 1),
            total("211 0002 00000422 00000002 00000004", 3),
            total("21  0002 00000422 00000002 00000004", 2),
            total("2   0002 00000422 00000002 00000004", 1),
            total("    0004 00000645 00000005 00000006", 0),
        ])

    def test_a_lesser_control_alike_beyond_a_greater_one(self):
        # Both cards have a 5 in the second control, and are no group for that.
        self.assertEqual(page(read("15\n25"), (THREE, 2, [], [], False)), [
            total("15 0001", 2), total("1  0001", 1), total("25 0001", 2), total("2  0001", 1), total("   0002", 0),
        ])

    def test_no_fields_shown(self):
        self.assertEqual(page(read("7\n8"), (THREE, 0, [], [], True)),
                         [" " * 40, " " * 40, total(" 0002", 0)])

    def test_controls_in_the_sequence_of_the_order(self):
        order = [(11, True), (0, False)]
        deck = read("1          2\n2          2\n1          3")
        self.assertEqual(page(deck, (order, 2, [], [(11, 12)], True)), [
            card_line("3"), total("31 0001", 2), total("3  0001", 1),
            card_line("2"), total("21 0001", 2), card_line("2"), total("22 0001", 2), total("2  0002", 1),
            total("   0003", 0),
        ])

    def test_the_order_goes_on_beyond_the_controls(self):
        deck = read("A1\nA3\nA2")
        self.assertEqual(page(deck, ([(0, False), (1, True)], 1, [], [(1, 2)], True)),
                         [card_line("3"), card_line("2"), card_line("1"), total("A 0003", 1), total("  0003", 0)])

    def test_like_cards_as_they_came(self):
        deck = read("A2\nA1\nA3")
        self.assertEqual(page(deck, (THREE[:1], 1, [], [(0, 2)], True))[:3],
                         [card_line("A2"), card_line("A1"), card_line("A3")])

    def test_a_control_beyond_the_cards(self):
        deck = read("1\n2 5\n3 ")
        self.assertEqual(page(deck, ([(2, False), (9, False)], 2, [(0, 1)], [(0, 3)], True)), [
            card_line("1"), card_line("3"), total("   0002 00000004", 2), total("   0002 00000004", 1),
            card_line("2 5"), total("5  0001 00000002", 2), total("5  0001 00000002", 1),
            total("   0003 00000006", 0),
        ])

    def test_fields_beyond_the_cards(self):
        deck = read("12\n3")
        self.assertEqual(page(deck, ([], 0, [(0, 6), (1, 2), (6, 12)], [(0, 3), (5, 7), (1, 2)], True)), [
            card_line("12     2"), card_line("3"), total(" 0002 00420000 00000002 00000000", 0),
        ])

    def test_columns_without_a_figure_and_with_holes_above(self):
        deck = read("\n".join(sign + "-" + sign for sign in SIGNS))
        lines = page(deck, ([], 0, [(0, 3), (0, 1), (1, 2)], [(0, 3)], True))
        self.assertEqual([line[:3] for line in lines[:-1]], [sign + "-" + sign for sign in SIGNS])
        self.assertEqual(lines[-1], total(" 0033 00013635 00000135 00000000", 0))

    def test_each_sign_in_a_sum(self):
        for sign in SIGNS:
            lines = page(read(sign), ([], 0, [(0, 1)], [], False))
            self.assertEqual(lines, [total(" 0001 0000000" + FIGURES_OF[sign], 0)], sign)

    def test_the_greatest_sum_of_a_card(self):
        self.assertEqual(page(read("J9T99+"), ([], 0, [(0, 6)], [], False)), [total(" 0001 00999990", 0)])

    def test_sums_beyond_eight_figures(self):
        deck = read("\n".join(["999999"] * 100))
        self.assertEqual(page(deck, ([], 0, [(0, 6)], [], False)), [total(" 0100 99999900", 0)])
        deck = read("\n".join(["999999"] * 101))
        self.assertEqual(page(deck, ([], 0, [(0, 6)], [], False)), [total(" 0101 00999899", 0)])
        deck = read("\n".join(["999999A"] * 100 + ["999999B"] * 100))
        self.assertEqual(page(deck, ([(6, False)], 1, [(0, 6), (0, 5)], [], False)), [
            total("A 0100 99999900 09999900", 1), total("B 0100 99999900 09999900", 1),
            total("  0200 99999800 19999800", 0),
        ])

    def test_counts_beyond_four_figures(self):
        deck = read("1") * 10001
        self.assertEqual(page(deck, ([], 0, [(0, 1)], [], False)), [total(" 0001 00010001", 0)])

    def test_the_widest_lines(self):
        deck = read("123456789JKL")
        shown = [(0, 6), (6, 12), (0, 6), (6, 12), (0, 6), (8, 12)]
        sums = [(0, 6), (6, 12), (11, 12)]
        self.assertEqual(page(deck, (THREE, 3, sums, shown, True))[:2], [
            "123456 789JKL 123456 789JKL 123456 9JKL ",
            "123 0001 00123456 00789901 00000001    3",
        ])

    def test_each_line_has_forty_signs(self):
        chance = random.Random(101)
        for _ in range(60):
            lines = page(some_deck(chance, chance.randint(1, 30), SIGNS), some_wish(chance))
            self.assertEqual({len(line) for line in lines}, {40})

    def test_as_the_document_says_it(self):
        chance = random.Random(102)
        for _ in range(200):
            wish = some_wish(chance)
            signs = chance.choice((SIGNS, " 1A", "29", "0123456789"))
            deck = some_deck(chance, chance.randint(0, 25), signs, chance.choice((1, 10, 12)))
            self.assertEqual(page(deck, wish), by_the_document(deck, wish), wish)

    def test_two_hundred_cards(self):
        chance = random.Random(103)
        for _ in range(5):
            wish = some_wish(chance)
            deck = some_deck(chance, 200, "1 A")
            self.assertEqual(page(deck, wish), by_the_document(deck, wish), wish)


class Unchanged(unittest.TestCase):

    def test_what_is_handed_in_is_not_changed(self):
        deck = read("B2\nA1\nB1\nA9")
        wish = ([(0, False), (1, True)], 1, [(1, 2)], [(0, 2)], True)
        kept = copy.deepcopy((deck, wish))
        told = page(deck, wish)
        again = list(told)
        told.clear()
        self.assertEqual(page(deck, wish), again)
        self.assertEqual((deck, wish), kept)


if __name__ == "__main__":
    unittest.main()
