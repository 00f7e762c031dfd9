"""The interface: each name, its arguments and the file that defines it."""

import importlib
import inspect
import unittest

FUNCTIONS = {
    "cards": {"need_deck": "deck", "sign_of": "column", "written": "deck", "read": "text"},
    "orders": {"plainly": "deck order", "passes_for": "order signs"},
    "sorter": {"pockets": "deck one", "passed": "deck one", "sorted_by": "deck passes"},
    "judge": {"judge": "passes order signs"},
    "collator": {"laid": "one other order", "parted": "deck other order"},
    "wishes": {"page": "deck wish"},
    "tables": {
        "printed": "deck wiring", "wired": "wish", "made": "wish signs", "worked": "deck passes wiring",
        "Table": "wiring",
    },
}
METHODS = {("tables", "Table"): {"feed": "self card", "ends": "self"}}


def arguments(thing):
    return " ".join(inspect.signature(thing).parameters)


class Interface(unittest.TestCase):

    def test_functions_and_classes(self):
        for name, functions in FUNCTIONS.items():
            module = importlib.import_module("holedeck." + name)
            for word, told in functions.items():
                thing = getattr(module, word)
                self.assertEqual(arguments(thing), told, (name, word))
                self.assertEqual(thing.__module__, "holedeck." + name, word)
                self.assertEqual(thing.__name__, word)

    def test_methods(self):
        for (name, word), methods in METHODS.items():
            module = importlib.import_module("holedeck." + name)
            for method, told in methods.items():
                self.assertEqual(arguments(vars(getattr(module, word))[method]), told, method)

    def test_arguments_by_name(self):
        from holedeck.collator import laid, parted
        from holedeck.judge import judge
        from holedeck.tables import Table, made, printed, wired, worked
        from holedeck.wishes import page
        order, deck = [(0, False)], [((),)]
        wish = (order, 0, [], [], True)
        self.assertIsNone(judge(passes=[], order=[], signs={}))
        self.assertEqual(laid(one=deck, other=[], order=order), deck)
        self.assertEqual(parted(deck=deck, other=[], order=order), ([], deck))
        passes, wiring = made(wish=wish, signs={})
        self.assertEqual(worked(deck=deck, passes=passes, wiring=wiring), page(deck=deck, wish=wish))
        self.assertEqual(printed(deck=deck, wiring=wired(wish=wish)), page(deck=deck, wish=wish))
        self.assertEqual(Table(wiring=wiring).feed(card=deck[0]), page(deck, wish)[:1])


if __name__ == "__main__":
    unittest.main()
