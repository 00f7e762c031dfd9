"""Wirings that cannot be: point 11."""

import itertools
import unittest

from holedeck.cards import read
from holedeck.errors import BadWire
from holedeck.tables import Table, printed, worked

# Of each sort of plug one with the least numbers and one with the greatest, where three columns are watched.
LEAST = (("hole", 0, 0), ("head", 0, 0, 1), ("add", 0, 0, 0), ("count", 0), ("print", 0, 0, 0), ("level", 0))
GREATEST = (
    ("hole", 11, 39), ("head", 11, 39, 3), ("add", 3, 11, 7), ("count", 3), ("print", 3, 7, 39), ("level", 39),
)
WATCHED = ([], [0], [0, 11], [5, 6, 7], [3, 3, 3])
BAD_WATCHED = (
    [-1], [12], [0, 12], [-1, 0], [0, 1, 12], [0, -1, 1], [12, 0, 1], [100],
    [0, 1, 2, 3], [0, 0, 0, 0], [0, 1, 2, 3, 4, 5], [12, 13, 14, 15],
)
BAD = ("hole", 12, 0)
OTHER_WORDS = (
    "", "holes", "Hole", "HOLE", " hole", "hole ", "heads", "adds", "added", "counter", "prints", "printed", "levels",
    "total", "subtract", "-1",
)


def with_number(plug, at, number):
    """A plug with another number at a place."""
    return plug[:at] + (number,) + plug[at + 1:]


class Wirings(unittest.TestCase):

    def assert_taken(self, watched, plugs):
        for detail in (True, False):
            Table((watched, plugs, detail))
            printed([], (watched, plugs, detail))

    def assert_refused(self, at, watched, plugs):
        for detail in (True, False):
            wiring = (watched, plugs, detail)
            asked = (
                lambda: Table(wiring), lambda: printed([], wiring), lambda: printed(read("1\n2"), wiring),
                lambda: worked([], [], wiring), lambda: worked(read("1\n2"), [], wiring),
            )
            for ask in asked:
                with self.assertRaises(BadWire) as caught:
                    ask()
                self.assertEqual(caught.exception.at, at, wiring)

    def test_the_least_and_the_greatest_numbers(self):
        self.assert_taken([0, 1, 2], [*LEAST, *GREATEST])
        for plug in LEAST + GREATEST:
            self.assert_taken([0, 1, 2], [plug])

    def test_each_number_one_too_small(self):
        for plug in LEAST:
            for at in range(1, len(plug)):
                bad = with_number(plug, at, plug[at] - 1)
                self.assert_refused(0, [0, 1, 2], [bad])
                self.assert_refused(6, [0, 1, 2], [*LEAST, bad, *GREATEST])

    def test_each_number_one_too_large(self):
        for plug in GREATEST:
            for at in range(1, len(plug)):
                bad = with_number(plug, at, plug[at] + 1)
                self.assert_refused(0, [0, 1, 2], [bad])
                self.assert_refused(12, [0, 1, 2], [*LEAST, *GREATEST, bad])

    def test_each_number_far_too_small_or_large(self):
        for plug in LEAST + GREATEST:
            for at in range(1, len(plug)):
                self.assert_refused(0, [0, 1, 2], [with_number(plug, at, -40)])
                self.assert_refused(0, [0, 1, 2], [with_number(plug, at, 1000)])

    def test_least_goes_up_to_the_number_of_watched_columns(self):
        for watched in WATCHED:
            for least in range(-1, 6):
                plugs = [("level", 0), ("head", 0, 0, least)]
                if 1 <= least <= len(watched):
                    self.assert_taken(watched, plugs)
                else:
                    self.assert_refused(1, watched, plugs)

    def test_other_words(self):
        for plug in GREATEST:
            for word in OTHER_WORDS:
                self.assert_refused(0, [0, 1, 2], [(word,) + plug[1:]])
                self.assert_refused(1, [0, 1, 2], [plug, (word,) + plug[1:]])

    def test_words_of_another_sort_of_plug(self):
        self.assert_refused(0, [0, 1, 2], [("count", 0, 0)])
        self.assert_refused(0, [0, 1, 2], [("level", 0, 0)])
        self.assert_refused(0, [0, 1, 2], [("hole", 0)])
        self.assert_refused(0, [0, 1, 2], [("hole", 0, 0, 1)])
        self.assert_refused(0, [0, 1, 2], [("head", 1, 1)])
        self.assert_taken([0, 1, 2], [("head", 0, 0, 1)])
        self.assert_refused(0, [0, 1, 2], [("level", 0, 0, 0)])

    def test_another_count_of_things(self):
        for plug in LEAST + GREATEST:
            for many in range(len(plug)):
                self.assert_refused(0, [0, 1, 2], [plug[:many]])
                self.assert_refused(2, [0, 1, 2], [LEAST[0], LEAST[1], plug[:many]])
            self.assert_refused(0, [0, 1, 2], [plug + (1,)])
            self.assert_refused(0, [0, 1, 2], [plug + (1, 1)])

    def test_watched_columns(self):
        for watched in WATCHED:
            self.assert_taken(watched, [("level", 0)])
            self.assert_taken(watched, [])

    def test_wrong_watched_columns(self):
        for watched in BAD_WATCHED:
            self.assert_refused(-1, watched, [])
            self.assert_refused(-1, watched, [("level", 0)])

    def test_wrong_watched_columns_ahead_of_bad_plugs(self):
        for watched in BAD_WATCHED:
            self.assert_refused(-1, watched, [BAD])
            self.assert_refused(-1, watched, [("level", 0), ("what",), ()])

    def test_the_first_of_several_bad_plugs(self):
        bad = (BAD, (), ("what", 0), ("head", 0, 0, 2), ("count",), ("level", 40))
        for one, other in itertools.permutations(bad, 2):
            self.assert_refused(0, [0], [one, other])
            self.assert_refused(1, [0], [("level", 0), one, other])
            self.assert_refused(2, [0], [("level", 0), ("count", 0), one, ("level", 0), other])

    def test_many_plugs(self):
        self.assert_taken([0], [("level", at % 40) for at in range(500)])
        self.assert_refused(500, [0], [("level", at % 40) for at in range(500)] + [BAD])


if __name__ == "__main__":
    unittest.main()
