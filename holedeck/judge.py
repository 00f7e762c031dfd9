"""The judge: it tells of any passes whether they lay every deck in an order."""

from itertools import combinations, pairwise

from holedeck.cards import MOST_COLUMNS, SIGNS
from holedeck.orders import columns_in_order, need_order, need_signs
from holedeck.sorter import pocket_of


def judge(passes, order, signs):
    """Tell a deck of two cards that the passes do not lay in the order, or None."""
    need_order(order)
    need_signs(list(range(MOST_COLUMNS)), signs)
    # Two cards that come out wrong still do if they are made alike but for the column that
    # the order tells them apart by, and the one that the passes do: no more is to be tried.
    unlike = by_no_key(passes, order, signs) or by_one_key(passes, order, signs) or by_two_keys(passes, order, signs)
    if unlike is None:
        return None
    return [card_with(columns, signs) for columns in unlike]


def by_no_key(passes, order, signs):
    """Tell the unlike columns of two cards, alike in the order, that the passes exchange, or None."""
    keys = [key[0] for key in order]
    for at in range(MOST_COLUMNS):
        if at not in keys:
            rows = sorted([(falls_of(column, at, passes), column) for column in choices(at, False, signs)])
            least, greatest = rows[0], rows[-1]
            if least[0] < greatest[0]:
                return [{at: greatest[1]}, {at: least[1]}]
    return None


def by_one_key(passes, order, signs):
    """Tell the unlike columns of two cards, unlike in one key, that the passes leave turned round, or None."""
    for at, falling in order:
        # Where each is right beside the next one, they all are.
        for ahead, behind in pairwise(choices(at, falling, signs)):
            if falls_of(ahead, at, passes) >= falls_of(behind, at, passes):
                return [{at: behind}, {at: ahead}]
    return None


def by_two_keys(passes, order, signs):
    """Tell the unlike columns of two cards that the passes lay by the lesser of two keys, or None.

    Each key alone is laid right here.
    """
    steps = {key[0]: steps_of(key, passes, signs) for key in order}
    for (at, _), (by, _) in combinations(order, 2):
        for late, ahead, behind in steps[at]:
            for soon, first, second in steps[by]:
                if soon < late:
                    return [{at: behind, by: first}, {at: ahead, by: second}]
    return None


def steps_of(key, passes, signs):
    """Tell the neighbours in a key, ahead of each two how many of the last passes leave them alike."""
    at, falling = key
    steps = []
    for ahead, behind in pairwise(choices(at, falling, signs)):
        one = falls_of(ahead, at, passes)
        other = falls_of(behind, at, passes)
        alike = [mine == its for mine, its in zip(one, other)]
        steps.append((alike.index(False), ahead, behind))
    return steps


def choices(at, falling, signs):
    """Tell the columns that a card may have at `at`, in order."""
    return columns_in_order(signs.get(at, SIGNS), falling)


def falls_of(column, at, passes):
    """Tell what is less for a column at `at` that the passes lay ahead: the last pass counts first."""
    falls = []
    for by, places, falling in reversed(passes):
        number = pocket_of(column, places) if by == at else 0
        falls.append(-number if falling else number)
    return falls


def card_with(columns, signs):
    """Tell a card of twelve columns that has these ones, and wherever else the first that it may have."""
    card = []
    for at in range(MOST_COLUMNS):
        first = choices(at, False, signs)[0]
        card.append(columns.get(at, first))
    return tuple(card)
