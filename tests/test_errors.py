"""The refusals: what they are under, and their fields."""

import unittest

from holedeck import errors
from holedeck.cards import need_deck, read
from holedeck.orders import plainly

KINDS = (errors.BadCard, errors.BadWish, errors.BadWire, errors.Unsorted, errors.BadText)


class Refusals(unittest.TestCase):

    def test_any_refusal_is_a_value_error(self):
        self.assertTrue(issubclass(errors.DeckError, ValueError))
        self.assertEqual(errors.DeckError.__module__, "holedeck.errors")

    def test_each_kind_is_a_deck_error(self):
        for kind in KINDS:
            self.assertTrue(issubclass(kind, errors.DeckError), kind)
            self.assertEqual(kind.__module__, "holedeck.errors")

    def test_none_is_under_another_one(self):
        for one in KINDS:
            for other in KINDS:
                if one is not other:
                    self.assertFalse(issubclass(one, other), (one, other))

    def test_fields_of_what_is_refused(self):
        with self.assertRaises(errors.BadCard) as caught:
            need_deck([((),), ((), (0, 1))])
        self.assertEqual((caught.exception.card, caught.exception.column), (1, 1))
        with self.assertRaises(errors.BadText) as caught:
            read("A\n?")
        self.assertEqual(caught.exception.row, 1)
        with self.assertRaises(errors.BadWish) as caught:
            plainly([], [(12, False)])
        self.assertEqual(caught.exception.why, "order")

    def test_fields_of_each_kind(self):
        told = errors.BadCard(3, 4)
        self.assertEqual((told.card, told.column), (3, 4))
        self.assertEqual(errors.BadText(5).row, 5)
        self.assertEqual(errors.BadWish("wide").why, "wide")
        self.assertEqual(errors.BadWire(-1).at, -1)
        told = errors.Unsorted(1, 7)
        self.assertEqual((told.deck, told.card), (1, 7))


if __name__ == "__main__":
    unittest.main()
