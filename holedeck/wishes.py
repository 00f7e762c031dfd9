"""Wishes, and the page of a deck that plain reading tells for one."""

from holedeck.cards import MOST_COLUMNS, column_at, figure_of, sign_of
from holedeck.errors import BadWish
from holedeck.orders import need_order, plainly

LINE = 40
MOST_CONTROLS = 3
MOST_SUMS = 3
WIDEST_FIELD = 6
COUNT_FIGURES = 4
SUM_FIGURES = 8


def need_wish(wish):
    """Refuse a wish that cannot be."""
    order, controls, sums, shown, _ = wish
    need_order(order)
    if not 0 <= controls <= min(MOST_CONTROLS, len(order)):
        raise BadWish("controls")
    if len(sums) > MOST_SUMS or not only_fields(sums):
        raise BadWish("sums")
    if not only_fields(shown):
        raise BadWish("shown")
    if sum([end - begin + 1 for begin, end in shown]) > LINE:
        raise BadWish("wide")


def only_fields(fields):
    """Tell whether all of them can be fields."""
    return all([0 <= begin < end <= MOST_COLUMNS and end - begin <= WIDEST_FIELD for begin, end in fields])


def page(deck, wish):
    """Tell the lines that a wish asks for of a deck."""
    need_wish(wish)
    if not deck:
        return []
    return group_lines(plainly(deck, wish[0]), 0, wish)


def group_lines(cards, level, wish):
    """Tell the lines of a group of some level."""
    order, controls, _, shown, detail = wish
    lines = []
    if level < controls:
        for part in groups(cards, order[level][0]):
            lines.extend(group_lines(part, level + 1, wish))
    elif detail:
        lines.extend([card_line(card, shown) for card in cards])
    lines.append(total_line(cards, level, wish))
    return lines


def groups(cards, control):
    """Tell the cards in groups that are alike in a control, which they are in order by."""
    parts = []
    for card in cards:
        if parts and column_at(parts[-1][0], control) == column_at(card, control):
            parts[-1].append(card)
        else:
            parts.append([card])
    return parts


def card_line(card, shown):
    """Tell the line of a card."""
    fields = []
    for begin, end in shown:
        fields.append("".join([sign_of(column_at(card, at)) for at in range(begin, end)]))
    return " ".join(fields).ljust(LINE)


def total_line(cards, level, wish):
    """Tell the line of a total of cards, which are a group of this level."""
    order, controls, sums, _, _ = wish
    heads = [sign_of(column_at(cards[0], key[0])) for key in order[:level]]
    words = ["".join(heads).ljust(controls), last_figures(len(cards), COUNT_FIGURES)]
    for field in sums:
        total = sum([number_in(card, field) for card in cards])
        words.append(last_figures(total, SUM_FIGURES))
    return " ".join(words).ljust(LINE - 1) + str(level)


def number_in(card, field):
    """Tell the number that a card has in a field."""
    begin, end = field
    number = 0
    for at in range(begin, end):
        number = 10 * number + figure_of(column_at(card, at))
    return number


def last_figures(number, many):
    """Tell the last figures of a number, with noughts ahead."""
    return str(number).zfill(many)[-many:]
