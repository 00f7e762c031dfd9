"""Wired tables at work: points 1, 11 and 12."""

import copy
import random
import unittest

from holedeck.cards import read, sign_of
from holedeck.tables import Table, printed

SIGNS = " 0123456789-KLMNOPQRST+ABCDEFGHIJ"
FIGURES_OF = dict(zip(SIGNS, "00123456789" * 3))
BLANK = " " * 40
LEVEL = ("level", 39)


def line(**told):
    """A line with the told signs: p5="A" puts an A at place 5, p5="AB" a B behind it, too."""
    signs = list(BLANK)
    for name, text in told.items():
        place = int(name[1:])
        signs[place:place + len(text)] = text
    return "".join(signs)


def whole(counter, place):
    """The plugs that print all wheels of a counter, the greatest first."""
    return [("print", counter, 7 - at, place + at) for at in range(8)]


def sign_at(card, column):
    return sign_of(card[column]) if column < len(card) else " "


class Office:
    """A table by the document: each wheel is one, and carries to the next one."""

    def __init__(self, wiring):
        self.watched, self.plugs, self.detail = wiring
        self.wheels = [[[0] * 8 for _ in range(4)] for _ in range(len(self.watched) + 1)]
        self.ahead = None

    def turn(self, wheels, at, steps):
        for _ in range(steps):
            wheel = at
            while wheel < 8:
                wheels[wheel] = (wheels[wheel] + 1) % 10
                if wheels[wheel] > 0:
                    break
                wheel += 1

    def total(self, level):
        signs = list(BLANK)
        for plug in self.plugs:
            if plug[0] == "head" and level >= plug[3]:
                signs[plug[2]] = sign_at(self.ahead, plug[1])
            if plug[0] == "print":
                signs[plug[3]] = str(self.wheels[level][plug[1]][plug[2]])
            if plug[0] == "level":
                signs[plug[1]] = str(level)
        self.wheels[level] = [[0] * 8 for _ in range(4)]
        return "".join(signs)

    def feed(self, card):
        lines = []
        if self.ahead is not None:
            unlike = [
                at + 1 for at, column in enumerate(self.watched)
                if sign_at(card, column) != sign_at(self.ahead, column)
            ]
            if unlike:
                lines = [self.total(level) for level in range(len(self.watched), min(unlike) - 1, -1)]
        if self.detail:
            signs = list(BLANK)
            for plug in self.plugs:
                if plug[0] == "hole":
                    signs[plug[2]] = sign_at(card, plug[1])
            lines.append("".join(signs))
        for plug in self.plugs:
            for level in self.wheels:
                if plug[0] == "add":
                    self.turn(level[plug[1]], plug[3], int(FIGURES_OF[sign_at(card, plug[2])]))
                if plug[0] == "count":
                    self.turn(level[plug[1]], 0, 1)
        self.ahead = card
        return lines

    def ends(self):
        if self.ahead is None:
            return []
        lines = [self.total(level) for level in range(len(self.watched), -1, -1)]
        self.ahead = None
        return lines


def some_plug(chance, levels):
    column, place = chance.randrange(12), chance.choice((chance.randrange(40), chance.randrange(6)))
    counter, wheel = chance.randrange(4), chance.randrange(8)
    plugs = [
        ("hole", column, place), ("add", counter, column, wheel), ("count", counter),
        ("print", counter, wheel, place), ("level", place), ("print", counter, wheel, place),
    ]
    if levels:
        plugs.append(("head", column, place, chance.randint(1, levels)))
    return chance.choice(plugs)


def some_wiring(chance):
    watched = chance.choices(range(12), k=chance.randint(0, 3))
    plugs = [some_plug(chance, len(watched)) for _ in range(chance.randint(0, 40))]
    return watched, plugs, chance.random() < 0.7


def some_deck(chance, many, signs):
    rows = ["".join(chance.choice(signs) for _ in range(chance.randint(1, 12))) for _ in range(many)]
    return read("\n".join(rows))


class Plugs(unittest.TestCase):

    def test_hole(self):
        deck = read("AK")
        plugs = [("hole", 0, 0), ("hole", 1, 39), ("hole", 1, 3), ("hole", 0, 5)]
        self.assertEqual(printed(deck, ([], plugs, True)), [line(p0="A", p3="K", p5="A", p39="K"), BLANK])
        self.assertEqual(printed(deck, ([], plugs, False)), [BLANK])

    def test_hole_of_each_sign(self):
        lines = printed(read("\n".join(" " * 11 + sign for sign in SIGNS)), ([], [("hole", 11, 7)], True))
        self.assertEqual(lines, [line(p7=sign) for sign in SIGNS] + [BLANK])

    def test_hole_beyond_the_card(self):
        self.assertEqual(printed(read("A"), ([], [("hole", 1, 0), ("hole", 11, 1)], True)), [BLANK, BLANK])

    def test_head(self):
        deck = read("AKJ")
        plugs = [("head", 0, 0, 1), ("head", 1, 39, 2), ("head", 2, 20, 3), LEVEL]
        self.assertEqual(printed(deck, ([0, 1, 2], plugs[:3], False)), [
            line(p0="A", p20="J", p39="K"), line(p0="A", p39="K"), line(p0="A"), BLANK,
        ])
        self.assertEqual(printed(deck, ([4], [("head", 2, 5, 1)], True)), [BLANK, line(p5="J"), BLANK])

    def test_head_is_of_the_last_card(self):
        plugs = [("head", 1, 0, 1), LEVEL]
        self.assertEqual(printed(read("A1\nA2\nB3\nB4\nB5"), ([0], plugs, False)), [
            line(p0="2", p39="1"), line(p0="5", p39="1"), line(p39="0"),
        ])
        self.assertEqual(printed(read("A1\nA2\nB\nC7"), ([0], plugs, False)), [
            line(p0="2", p39="1"), line(p39="1"), line(p0="7", p39="1"), line(p39="0"),
        ])

    def test_add_and_print(self):
        deck = read("3\n4")
        self.assertEqual(printed(deck, ([], [("add", 0, 0, 0), *whole(0, 0)], False)), [line(p0="00000007")])
        self.assertEqual(printed(deck, ([], [("add", 3, 0, 7), *whole(3, 32)], False)), [line(p32="70000000")])
        self.assertEqual(printed(deck, ([], [("add", 3, 0, 7), *whole(2, 32)], False)), [line(p32="00000000")])
        self.assertEqual(printed(deck, ([], [("add", 1, 0, 2)], False)), [BLANK])
        self.assertEqual(printed(deck, ([], whole(1, 2), False)), [line(p2="00000000")])

    def test_print_of_each_wheel(self):
        plugs = [("add", 2, at, 7 - at) for at in range(8)]
        for wheel in range(8):
            lines = printed(read("12345678"), ([], [*plugs, ("print", 2, wheel, 11)], True))
            self.assertEqual(lines, [BLANK, line(p11=str(8 - wheel))])

    def test_add_of_each_sign(self):
        for sign in SIGNS:
            lines = printed(read("7" * 11 + sign), ([], [("add", 1, 11, 3), *whole(1, 0)], False))
            self.assertEqual(lines, [line(p0="0000" + FIGURES_OF[sign] + "000")], sign)

    def test_add_beyond_the_card(self):
        lines = printed(read("7\n78"), ([], [("add", 1, 1, 0), *whole(1, 0)], False))
        self.assertEqual(lines, [line(p0="00000008")])

    def test_several_adds_on_a_wheel(self):
        plugs = [("add", 1, 0, 0), ("add", 1, 1, 0), ("add", 1, 0, 0), ("count", 1), ("add", 2, 0, 1)]
        lines = printed(read("78"), ([], [*plugs, *whole(1, 0), *whole(2, 10)], False))
        self.assertEqual(lines, [line(p0="00000023", p10="00000070")])

    def test_count(self):
        deck = read("\n".join("A" * 123))
        plugs = [("count", 0), ("count", 3), ("count", 3), *whole(0, 0), *whole(3, 10), *whole(1, 20)]
        self.assertEqual(printed(deck, ([], plugs, False)), [line(p0="00000123", p10="00000246", p20="00000000")])

    def test_level(self):
        plugs = [("level", 0), ("level", 39), ("level", 6)]
        expected = [line(p0=level, p6=level, p39=level) for level in "3210"]
        self.assertEqual(printed(read("1"), ([0, 1, 2], plugs, True)), [BLANK, *expected])

    def test_no_plugs(self):
        self.assertEqual(printed(read("1\n2"), ([], [], True)), [BLANK] * 3)
        self.assertEqual(printed(read("1\n2"), ([0], [], False)), [BLANK] * 3)


class SeveralAtOnePlace(unittest.TestCase):

    def test_the_last_ones_sign_stands(self):
        deck = read("AB")
        self.assertEqual(printed(deck, ([], [("hole", 0, 4), ("hole", 1, 4)], True)), [line(p4="B"), BLANK])
        self.assertEqual(printed(deck, ([], [("hole", 1, 4), ("hole", 0, 4)], True)), [line(p4="A"), BLANK])
        plugs = [("print", 0, 0, 4), ("head", 0, 4, 1), ("level", 4)]
        self.assertEqual(printed(deck, ([1], plugs, False)), [line(p4="1"), line(p4="0")])
        plugs = [("level", 4), ("count", 0), ("print", 0, 0, 4)]
        self.assertEqual(printed(read("AB\nAB\nAB"), ([1], plugs, False)), [line(p4="3"), line(p4="3")])

    def test_a_blank_stands_too(self):
        self.assertEqual(printed(read("A"), ([], [("hole", 0, 4), ("hole", 1, 4)], True)), [BLANK, BLANK])
        plugs = [("level", 4), ("head", 5, 4, 1)]
        self.assertEqual(printed(read("A"), ([0], plugs, False)), [BLANK, line(p4="0")])

    def test_lines_on_which_the_last_one_does_not_print(self):
        plugs = [("hole", 0, 4), ("level", 4), ("head", 1, 4, 2), ("hole", 2, 4), ("head", 3, 4, 3)]
        self.assertEqual(printed(read("ABCD"), ([0, 1, 2], plugs, True)),
                         [line(p4="C"), line(p4="D"), line(p4="B"), line(p4="1"), line(p4="0")])
        self.assertEqual(printed(read("A"), ([], [("level", 0), ("hole", 0, 0)], True)), [line(p0="A"), line(p0="0")])


class Carries(unittest.TestCase):

    def assert_sums(self, text, plugs, expected):
        self.assertEqual(printed(read(text), ([], [*plugs, *whole(0, 0)], False)), [line(p0=expected)])

    def test_over_one_wheel(self):
        self.assert_sums("9\n1", [("add", 0, 0, 0)], "00000010")
        self.assert_sums("9\n9", [("add", 0, 0, 0)], "00000018")
        self.assert_sums("9\n9", [("add", 0, 0, 3)], "00018000")

    def test_over_several_wheels(self):
        number = [("add", 0, at, 5 - at) for at in range(6)]
        self.assert_sums("999999\n     1", number, "01000000")
        self.assert_sums("099989\n    11", number, "00100000")
        self.assert_sums("999999\n999999", number, "01999998")
        self.assert_sums("     1\n999999", number[::-1], "01000000")

    def test_beyond_the_last_wheel(self):
        self.assert_sums("9\n1", [("add", 0, 0, 7)], "00000000")
        self.assert_sums("9\n3", [("add", 0, 0, 7)], "20000000")
        number = [("add", 0, at, 7 - at) for at in range(8)]
        self.assert_sums("99999999\n       1", number, "00000000")
        self.assert_sums("99999999\n99999999", number, "99999998")
        self.assert_sums("\n".join(["99999999"] * 200), number, "99999800")

    def test_the_next_counter_has_nothing_of_it(self):
        number = [("add", 1, at, 7 - at) for at in range(8)]
        lines = printed(read("99999999\n       1"), ([], [*number, *whole(0, 0), *whole(1, 10), *whole(2, 20)], False))
        self.assertEqual(lines, [line(p0="00000000", p10="00000000", p20="00000000")])

    def test_two_hundred_cards(self):
        self.assert_sums("\n".join("9" * 200), [("add", 0, 0, 0)], "00001800")
        self.assert_sums("\n".join("9" * 200), [("add", 0, 0, 6), ("count", 0)], "00000200")


class Levels(unittest.TestCase):

    PLUGS = [("hole", 0, 0), ("hole", 1, 1), ("hole", 2, 2), ("count", 0), ("print", 0, 0, 9), LEVEL]

    def lines(self, watched, rows, detail=False):
        table = Table((watched, self.PLUGS, detail))
        return [[text.replace(" ", "") for text in table.feed(card)] for card in read(rows)] + [
            [text.replace(" ", "") for text in table.ends()]
        ]

    def test_none_watched(self):
        self.assertEqual(self.lines([], "1\n2\n3"), [[], [], [], ["30"]])
        self.assertEqual(self.lines([], "1\n2", True), [["1"], ["2"], ["20"]])

    def test_one_watched(self):
        self.assertEqual(self.lines([0], "1\n1\n2\n1"), [[], [], ["21"], ["11"], ["11", "40"]])
        self.assertEqual(self.lines([0], "1\n2", True), [["1"], ["11", "2"], ["11", "20"]])
        self.assertEqual(self.lines([1], "1\n2\n31"), [[], [], ["21"], ["11", "30"]])

    def test_three_watched(self):
        rows = "111\n112\n122\n222\n222\n211\n111"
        self.assertEqual(self.lines([0, 1, 2], rows), [
            [], ["13"], ["13", "22"], ["13", "12", "31"], [], ["23", "22"], ["13", "12", "31"],
            ["13", "12", "11", "70"],
        ])

    def test_the_first_watched_is_level_1(self):
        rows = "12\n11\n21"
        self.assertEqual(self.lines([0, 1], rows), [[], ["12"], ["12", "21"], ["12", "11", "30"]])
        self.assertEqual(self.lines([1, 0], rows), [[], ["12", "11"], ["12"], ["12", "21", "30"]])

    def test_two_watched_columns_change_at_once(self):
        self.assertEqual(self.lines([0, 1, 2], "111\n221"), [[], ["13", "12", "11"], ["13", "12", "11", "20"]])
        self.assertEqual(self.lines([0, 1, 2], "111\n122"), [[], ["13", "12"], ["13", "12", "21", "20"]])
        self.assertEqual(self.lines([0, 1, 2], "111\n212"), [[], ["13", "12", "11"], ["13", "12", "11", "20"]])

    def test_the_same_column_watched_twice(self):
        self.assertEqual(self.lines([0, 0], "1\n1\n2"), [[], [], ["22", "21"], ["12", "11", "30"]])
        self.assertEqual(self.lines([0, 1, 0], "11\n12\n22"), [
            [], ["13", "12"], ["13", "12", "21"], ["13", "12", "11", "30"],
        ])

    def test_all_holes_of_a_watched_column_count(self):
        self.assertEqual(self.lines([0], "1\nA\nJ\n9\n \n0\n-\n+"), [
            [], ["11"], ["11"], ["11"], ["11"], ["11"], ["11"], ["11"], ["11", "80"],
        ])

    def test_a_watched_column_beyond_the_card_is_blank(self):
        self.assertEqual(self.lines([1], "1\n2 \n34\n3"), [[], [], ["21"], ["11"], ["11", "40"]])

    def test_the_card_ahead_counts_and_no_other(self):
        self.assertEqual(self.lines([0], "1\n2\n1\n1"), [[], ["11"], ["11"], [], ["21", "40"]])

    def test_totals_stand_ahead_of_the_cards_line(self):
        self.assertEqual(self.lines([0, 1], "11\n12\n21", True), [
            ["11"], ["12", "12"], ["12", "21", "21"], ["12", "11", "30"],
        ])

    def test_counters_of_all_levels_at_once(self):
        plugs = [("add", 0, 2, 0), ("add", 1, 2, 1), ("count", 3)]
        plugs += [*whole(0, 0), *whole(1, 10), ("print", 3, 0, 20), LEVEL]
        lines = printed(read("119\n114\n127\n216"), ([0, 1], plugs, False))
        self.assertEqual(lines, [
            line(p0="00000013", p10="00000130", p20="2", p39="2"),
            line(p0="00000007", p10="00000070", p20="1", p39="2"),
            line(p0="00000020", p10="00000200", p20="3", p39="1"),
            line(p0="00000006", p10="00000060", p20="1", p39="2"),
            line(p0="00000006", p10="00000060", p20="1", p39="1"),
            line(p0="00000026", p10="00000260", p20="4", p39="0"),
        ])

    def test_least(self):
        plugs = [("head", 0, 0, 1), ("head", 0, 1, 2), ("head", 0, 2, 3)]
        self.assertEqual(printed(read("A"), ([0, 1, 2], plugs, False)),
                         [line(p0="AAA"), line(p0="AA"), line(p0="A"), BLANK])


class Ends(unittest.TestCase):

    PLUGS = [("hole", 0, 0), ("head", 0, 1, 1), ("count", 0), ("print", 0, 0, 9), LEVEL]

    def test_without_a_card(self):
        table = Table(([0], self.PLUGS, True))
        self.assertEqual(table.ends(), [])
        self.assertEqual(table.ends(), [])
        self.assertEqual(printed([], ([0], self.PLUGS, True)), [])
        self.assertEqual(printed([], ([], [], False)), [])

    def test_twice(self):
        table = Table(([0], self.PLUGS, True))
        self.assertEqual(table.feed(read("A")[0]), [line(p0="A")])
        self.assertEqual(table.ends(), [line(p1="A", p9="1", p39="1"), line(p9="1", p39="0")])
        self.assertEqual(table.ends(), [])

    def test_a_second_deck_behind_it(self):
        table = Table(([0], self.PLUGS, False))
        deck = read("A\nA\nB")
        expected = [
            [], [], [line(p1="A", p9="2", p39="1")],
            [line(p1="B", p9="1", p39="1"), line(p9="3", p39="0")],
        ]
        for _ in range(3):
            self.assertEqual([table.feed(card) for card in deck] + [table.ends()], expected)
            self.assertEqual(table.ends(), [])

    def test_the_card_ahead_of_ends_is_no_card_ahead(self):
        table = Table(([0], self.PLUGS, True))
        table.feed(read("A")[0])
        table.ends()
        self.assertEqual(table.feed(read("B")[0]), [line(p0="B")])
        self.assertEqual(table.ends(), [line(p1="B", p9="1", p39="1"), line(p9="1", p39="0")])

    def test_lines_are_lists(self):
        table = Table(([0], self.PLUGS, False))
        self.assertEqual((table.ends(), table.feed(read("A")[0])), ([], []))
        self.assertIsInstance(table.feed(read("B")[0]), list)
        self.assertIsInstance(table.ends(), list)


class ByTheDocument(unittest.TestCase):

    def test_any_tables(self):
        chance = random.Random(121)
        for _ in range(300):
            wiring = some_wiring(chance)
            table, office = Table(wiring), Office(wiring)
            signs = chance.choice((SIGNS, "1 ", "99 1A", "89"))
            for _ in range(chance.randint(1, 3)):
                for card in some_deck(chance, chance.randint(0, 20), signs):
                    self.assertEqual(table.feed(card), office.feed(card), wiring)
                self.assertEqual(table.ends(), office.ends(), wiring)

    def test_printed(self):
        chance = random.Random(122)
        for _ in range(60):
            wiring = some_wiring(chance)
            office = Office(wiring)
            deck = some_deck(chance, chance.randint(0, 200), chance.choice((SIGNS, "1 ")))
            expected = [text for card in deck for text in office.feed(card)] + office.ends()
            self.assertEqual(printed(deck, wiring), expected)
            self.assertEqual({len(text) for text in expected}, {40} if expected else set())


class Untouched(unittest.TestCase):

    WIRING = ([0], [("hole", 0, 0), ("head", 0, 1, 1), ("add", 0, 1, 0), *whole(0, 9), LEVEL], True)

    def test_two_tables_by_turns(self):
        chance = random.Random(123)
        for other in (self.WIRING, ([1], self.WIRING[1], False)):
            one_deck, other_deck = some_deck(chance, 30, "12"), some_deck(chance, 30, "12")
            one_table, other_table = Table(self.WIRING), Table(other)
            one_lines, other_lines = [], []
            for mine, its in zip(one_deck, other_deck):
                one_lines += one_table.feed(mine)
                other_lines += other_table.feed(its)
            other_lines += other_table.ends()
            one_lines += one_table.ends()
            self.assertEqual(one_lines, printed(one_deck, self.WIRING))
            self.assertEqual(other_lines, printed(other_deck, other))

    def test_the_wiring_changed_behind_the_table(self):
        deck = read("19\n18\n27")
        expected = printed(deck, self.WIRING)
        for early in (True, False):
            wiring = copy.deepcopy(self.WIRING)
            table = Table(wiring)
            lines = [] if early else table.feed(deck[0])
            wiring[0].append(1)
            wiring[0][0] = 7
            wiring[1].reverse()
            wiring[1].append(("hole", 1, 0))
            wiring[1][:3] = [("what",)]
            for card in deck if early else deck[1:]:
                lines += table.feed(card)
            self.assertEqual(lines + table.ends(), expected)

    def test_the_wiring_emptied_behind_the_table(self):
        wiring = copy.deepcopy(self.WIRING)
        table = Table(wiring)
        wiring[0].clear()
        wiring[1].clear()
        deck = read("19\n27")
        lines = table.feed(deck[0]) + table.feed(deck[1]) + table.ends()
        self.assertEqual(lines, printed(deck, self.WIRING))

    def test_what_is_handed_in_is_not_changed(self):
        wiring, deck = copy.deepcopy(self.WIRING), read("19\n18\n27")
        table = Table(wiring)
        for card in deck:
            table.feed(card)
        table.ends()
        printed(deck, wiring)
        self.assertEqual(wiring, self.WIRING)
        self.assertEqual(deck, read("19\n18\n27"))

    def test_lines_may_be_changed(self):
        deck = read("19\n18\n27")
        table, other = Table(self.WIRING), Table(self.WIRING)
        for card in deck * 2:
            told = table.feed(card)
            self.assertEqual(told, other.feed(card))
            told.append("more")
            told.reverse()
        told = table.ends()
        self.assertEqual(told, other.ends())
        told.clear()
        self.assertEqual(table.ends(), [])
        told = printed(deck, self.WIRING)
        again = list(told)
        told.clear()
        self.assertEqual(printed(deck, self.WIRING), again)


if __name__ == "__main__":
    unittest.main()
