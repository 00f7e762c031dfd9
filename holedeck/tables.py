"""Wired tables: they read a deck card by card, add on wheels and print."""

from holedeck.cards import MOST_COLUMNS, column_at, figure_of, sign_of
from holedeck.errors import BadWire
from holedeck.orders import passes_for
from holedeck.sorter import sorted_by
from holedeck.wishes import COUNT_FIGURES, LINE, SUM_FIGURES, need_wish

MOST_WATCHED = 3
COUNTERS = 4
WHEELS = 8
WHEEL_WORTHS = (1, 10, 100, 1000, 10000, 100000, 1000000, 10000000)


def need_wiring(wiring):
    """Refuse a wiring that cannot be."""
    watched, plugs, _ = wiring
    if len(watched) > MOST_WATCHED or not all([0 <= column < MOST_COLUMNS for column in watched]):
        raise BadWire(-1)
    limits = plug_limits(len(watched))
    for at, plug in enumerate(plugs):
        if not fits(plug, limits):
            raise BadWire(at)


def plug_limits(levels):
    """Tell for each plug's word the least and the greatest of each number behind it."""
    column = (0, MOST_COLUMNS - 1)
    place = (0, LINE - 1)
    counter = (0, COUNTERS - 1)
    wheel = (0, WHEELS - 1)
    return {
        "hole": [column, place],
        "head": [column, place, (1, levels)],
        "add": [counter, column, wheel],
        "count": [counter],
        "print": [counter, wheel, place],
        "level": [place],
    }


def fits(plug, limits):
    """Tell whether a plug can be."""
    if len(plug) == 0 or plug[0] not in limits:
        return False
    word, *numbers = plug
    ranges = limits[word]
    if len(numbers) != len(ranges):
        return False
    return all([least <= number <= most for number, (least, most) in zip(numbers, ranges)])


class Table:
    """A table with a wiring, which reads cards and prints lines."""

    def __init__(self, wiring):
        need_wiring(wiring)
        watched, plugs, detail = wiring
        self.watched = list(watched)
        self.plugs = list(plugs)
        self.detail = detail
        # A counter is one number, since what goes beyond the last wheel is never printed.
        self.counters = [[0] * COUNTERS for _ in range(len(watched) + 1)]
        # None where no card is ahead: an ended deck does not count for the next one.
        self.last = None

    def feed(self, card):
        """Read a card and tell the lines printed."""
        lines = []
        if self.last is not None:
            lines = self.totals(self.changed_level(card))
        if self.detail:
            lines.append(self.card_line(card))
        self.add_card(card)
        self.last = card
        return lines

    def ends(self):
        """End a deck and tell the lines printed."""
        if self.last is None:
            return []
        lines = self.totals(0)
        self.last = None
        return lines

    def changed_level(self, card):
        """Tell the least level whose column is unlike the card ahead, or one beyond them all."""
        for at, column in enumerate(self.watched):
            if column_at(card, column) != column_at(self.last, column):
                return at + 1
        return len(self.watched) + 1

    def totals(self, least):
        """Tell the totals from the greatest level down to the least one, and set these to nought."""
        lines = []
        for level in range(len(self.watched), least - 1, -1):
            lines.append(self.total_line(level))
            self.counters[level] = [0] * COUNTERS
        return lines

    def add_card(self, card):
        """Add what the card adds, in all levels."""
        for plug in self.plugs:
            match plug:
                case ("add", counter, column, wheel):
                    self.add_number(counter, figure_of(column_at(card, column)) * WHEEL_WORTHS[wheel])
                case ("count", counter):
                    self.add_number(counter, 1)

    def add_number(self, counter, number):
        """Add a number to a counter, in all levels."""
        for level in range(len(self.counters)):
            self.counters[level][counter] += number

    def card_line(self, card):
        """Tell a card's line."""
        line = [" "] * LINE
        for plug in self.plugs:
            match plug:
                case ("hole", column, place):
                    line[place] = sign_of(column_at(card, column))
        return "".join(line)

    def total_line(self, level):
        """Tell a total's line, of the cards up to the last one."""
        line = [" "] * LINE
        for plug in self.plugs:
            match plug:
                case ("head", column, place, least) if least <= level:
                    line[place] = sign_of(column_at(self.last, column))
                case ("print", counter, wheel, place):
                    figure = self.counters[level][counter] // WHEEL_WORTHS[wheel] % 10
                    line[place] = str(figure)
                case ("level", place):
                    line[place] = str(level)
        return "".join(line)


def printed(deck, wiring):
    """Tell the lines that a table prints of a deck."""
    table = Table(wiring)
    lines = []
    for card in deck:
        lines.extend(table.feed(card))
    lines.extend(table.ends())
    return lines


def wired(wish):
    """Tell a wiring that prints the page of a wish, from the cards in order."""
    need_wish(wish)
    order, controls, sums, shown, detail = wish
    watched = [key[0] for key in order[:controls]]
    plugs = [("head", column, at, at + 1) for at, column in enumerate(watched)]
    plugs.extend(count_plugs(controls + 1))
    # A blank stands ahead of each sum.
    place = controls + 1 + COUNT_FIGURES + 1
    for at, field in enumerate(sums):
        plugs.extend(sum_plugs(at + 1, field, place))
        place += SUM_FIGURES + 1
    plugs.append(("level", LINE - 1))
    plugs.extend(shown_plugs(shown))
    return (watched, plugs, detail)


def count_plugs(place):
    """Tell the plugs that count cards on counter 0 and print the count."""
    return [("count", 0), *print_plugs(0, COUNT_FIGURES, place)]


def sum_plugs(counter, field, place):
    """Tell the plugs that add a field's numbers on a counter and print the sum."""
    begin, end = field
    adding = [("add", counter, column, end - 1 - column) for column in range(begin, end)]
    return adding + print_plugs(counter, SUM_FIGURES, place)


def print_plugs(counter, figures, place):
    """Tell the plugs that print the last figures of a counter."""
    return [("print", counter, figures - 1 - at, place + at) for at in range(figures)]


def shown_plugs(shown):
    """Tell the plugs that print the shown fields of a card, with a blank behind each."""
    plugs = []
    place = 0
    for begin, end in shown:
        for column in range(begin, end):
            plugs.append(("hole", column, place))
            place += 1
        place += 1
    return plugs


def made(wish, signs):
    """Tell the passes and the wiring that print the page of a wish, from the cards in any order."""
    passes = passes_for(wish[0], signs)
    return (passes, wired(wish))


def worked(deck, passes, wiring):
    """Tell the lines that a table prints of a deck behind the passes."""
    return printed(sorted_by(deck, passes), wiring)
