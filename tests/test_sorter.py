"""Passes and pockets: points 1 and 5."""

import copy
import random
import unittest

from holedeck import sorter
from holedeck.cards import read, written
from holedeck.sorter import passed, pockets, sorted_by

SIGNS = " 0123456789-KLMNOPQRST+ABCDEFGHIJ"
ALL = tuple(range(12))


def some_deck(chance, many, widest=12):
    """A deck of cards of unlike widths."""
    rows = ["".join(chance.choice(SIGNS) for _ in range(chance.randint(1, widest))) for _ in range(many)]
    return read("\n".join(rows))


def some_pass(chance):
    places = tuple(hole for hole in range(12) if chance.random() < 0.4)
    return chance.randrange(12), places, chance.random() < 0.5


def pocket(card, one):
    """The pocket of a card, as the document says it."""
    column, places, _ = one
    holes = card[column] if column < len(card) else ()
    had = [place for place in places if place in holes]
    return min(had) + 1 if had else 0


def texts(decks):
    return [written(deck) for deck in decks]


def filled(**told):
    """Thirteen texts: those told (p0 to p12), else empty ones."""
    return [told.get("p" + str(number), "") for number in range(13)]


class Pockets(unittest.TestCase):

    def test_each_hole_has_its_pocket(self):
        deck = read("\n".join(" 0123456789-+"))
        decks = pockets(deck, (0, ALL, False))
        self.assertEqual(texts(decks), list(" 0123456789-+"))

    def test_the_edges_of_the_holes(self):
        deck = read("0\n9\n-\n+\n ")
        self.assertEqual(texts(pockets(deck, (0, (0, 11), False))), filled(p0="9\n-\n ", p1="0", p12="+"))
        self.assertEqual(texts(pockets(deck, (0, (9, 10), False))), filled(p0="0\n+\n ", p10="9", p11="-"))

    def test_the_least_place_counts(self):
        deck = read("A\nK\nJ\nT")
        self.assertEqual(texts(pockets(deck, (0, ALL, False))), filled(p1="A\nK", p10="J\nT"))
        self.assertEqual(texts(pockets(deck, (0, (9, 10, 11), False))), filled(p12="A", p11="K", p10="J\nT"))
        self.assertEqual(texts(pockets(deck, (0, (10, 11), True))), filled(p12="A\nJ", p11="K\nT"))

    def test_no_places(self):
        deck = read("A\n1\n \n+")
        self.assertEqual(texts(pockets(deck, (0, (), False))), filled(p0="A\n1\n \n+"))

    def test_cards_stand_as_they_came(self):
        deck = read("B1\n21\nB \n2A\nB1\n31")
        found = texts(pockets(deck, (0, (1, 2), False)))
        self.assertEqual(found, filled(p0="31", p2="B1\nB \nB1", p3="21\n2A"))
        self.assertEqual(texts(pockets(deck, (0, (1, 2), True))), found)

    def test_columns_0_and_11(self):
        deck = read("1          2\n2          1")
        self.assertEqual(texts(pockets(deck, (0, (1,), False))), filled(p2=written(deck[:1]), p0=written(deck[1:])))
        self.assertEqual(texts(pockets(deck, (11, (1,), False))), filled(p0=written(deck[:1]), p2=written(deck[1:])))

    def test_a_column_beyond_the_card_has_no_holes(self):
        deck = read("1\n11\n1 1")
        self.assertEqual(texts(pockets(deck, (1, (1,), False))), filled(p0="1\n1 1", p2="11"))
        self.assertEqual(texts(pockets(deck, (11, ALL, False))), filled(p0="1\n11\n1 1"))

    def test_somewhat_beyond_the_limits_is_no_error(self):
        deck = read("1\n111111111111") + [(), ((1,),) * 13, ((12,),)]
        for column in (-1, 0, 12, 13):
            for places in ((), (1,), (-1, 1, 12, 13)):
                found = pockets(deck, (column, places, False))
                self.assertEqual([len(found), sum(len(part) for part in found)], [13, 5])
                self.assertEqual(len(sorted_by(deck, [(column, places, True)])), 5)

    def test_the_empty_deck(self):
        self.assertEqual(pockets([], (0, ALL, True)), [[] for _ in range(13)])

    def test_by_the_words_of_the_document(self):
        chance = random.Random(5)
        for _ in range(200):
            deck = some_deck(chance, chance.randint(1, 30))
            one = some_pass(chance)
            expected = [[card for card in deck if pocket(card, one) == number] for number in range(13)]
            self.assertEqual(pockets(deck, one), expected)

    def test_defined_where_the_interface_lists_it(self):
        for name in ("pockets", "passed", "sorted_by"):
            self.assertEqual(getattr(sorter, name).__module__, "holedeck.sorter")


class Passed(unittest.TestCase):

    def test_pocket_0_first(self):
        deck = read("+\n3\n \n-\n0")
        self.assertEqual(written(passed(deck, (0, ALL, False))), " \n0\n3\n-\n+")

    def test_falling_pocket_12_first(self):
        deck = read("3\n+\n \n-\n0")
        self.assertEqual(written(passed(deck, (0, ALL, True))), "+\n-\n3\n0\n ")

    def test_like_cards_as_they_came(self):
        deck = read("1A\n2C\n1B\n2A")
        self.assertEqual(written(passed(deck, (0, (1, 2), False))), "1A\n1B\n2C\n2A")
        self.assertEqual(written(passed(deck, (0, (1, 2), True))), "2C\n2A\n1A\n1B")

    def test_no_places(self):
        deck = read("2\n1\n \n+")
        self.assertEqual(passed(deck, (0, (), False)), deck)
        self.assertEqual(passed(deck, (0, (), True)), deck)

    def test_the_empty_deck(self):
        self.assertEqual(passed([], (3, (1, 10), True)), [])

    def test_more_than_200_cards_are_no_error(self):
        deck = read("2\n1") * 120
        self.assertEqual(passed(deck, (0, (2,), False)), read("1") * 120 + read("2") * 120)

    def test_by_the_words_of_the_document(self):
        chance = random.Random(6)
        for _ in range(200):
            deck = some_deck(chance, chance.randint(1, 30))
            one = some_pass(chance)
            numbers = range(12, -1, -1) if one[2] else range(13)
            expected = [card for number in numbers for card in deck if pocket(card, one) == number]
            self.assertEqual(passed(deck, one), expected)


class SortedBy(unittest.TestCase):

    def test_one_behind_another(self):
        deck = read("21\n12\n11\n22")
        passes = [(1, (1, 2), False), (0, (1, 2), True)]
        self.assertEqual(written(sorted_by(deck, passes)), "21\n22\n11\n12")
        self.assertEqual(written(sorted_by(deck, passes[::-1])), "21\n11\n22\n12")

    def test_no_passes(self):
        deck = read("2\n1")
        self.assertEqual(sorted_by(deck, []), deck)
        self.assertEqual(sorted_by([], []), [])

    def test_as_passed_again_and_again(self):
        chance = random.Random(7)
        for _ in range(60):
            deck = some_deck(chance, 25, 4)
            passes = [some_pass(chance) for _ in range(chance.randint(0, 6))]
            expected = deck
            for one in passes:
                expected = passed(expected, one)
            self.assertEqual(sorted_by(deck, passes), expected)


class NothingIsKept(unittest.TestCase):

    def setUp(self):
        self.deck = read("B1\n21\n 3\n9\nK2")
        self.one = (0, (1, 2, 10), True)
        self.passes = [(1, (1, 2), False), self.one]
        self.kept = copy.deepcopy((self.deck, self.one, self.passes))

    def tearDown(self):
        self.assertEqual((self.deck, self.one, self.passes), self.kept)

    def test_pockets(self):
        first = pockets(self.deck, self.one)
        again = copy.deepcopy(first)
        for part in first:
            part.append(self.deck[0])
        # Each is a deck of its own, the empty ones too.
        self.assertEqual([len(part) for part in first], [len(part) + 1 for part in again])
        first.clear()
        self.assertEqual(pockets(self.deck, self.one), again)

    def test_passed(self):
        for one in (self.one, (0, (), False), (0, (), True)):
            first = passed(self.deck, one)
            again = list(first)
            first.clear()
            self.assertEqual(passed(self.deck, one), again)

    def test_sorted_by(self):
        for passes in (self.passes, []):
            first = sorted_by(self.deck, passes)
            again = list(first)
            first.clear()
            self.assertEqual(sorted_by(self.deck, passes), again)


if __name__ == "__main__":
    unittest.main()
