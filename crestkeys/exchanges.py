"""Exchanges of neighbours in an order, and rows of them between two orders."""

from crestkeys.cards import is_whole
from crestkeys.errors import NoPlace, OtherCards
from crestkeys.shapes import parts_of, shape_of, tops_of


def is_free(order, k):
    """True where some place between those at k and k + 1 comes ahead of both."""
    low = min(order[k], order[k + 1])
    high = max(order[k], order[k + 1])
    return any([low < place < high for place in order[:k]])


def exchanged(order, k):
    """The order behind an exchange at k, and "free" or "turn"; NoPlace."""
    if not 0 <= k < len(order) - 1:
        raise NoPlace(k)
    word = "free" if is_free(order, k) else "turn"
    return (order[:k] + (order[k + 1], order[k]) + order[k + 2:], word)


def exchanged_by(order, row):
    """The order behind a row of exchanges, and the list of the numbers of those that are turns; NoPlace."""
    turns = []
    for number, k in enumerate(row):
        order, word = exchanged(order, k)
        if word == "turn":
            turns.append(number)
    return (order, turns)


def goals(one, other):
    """For each place of the one order its position in the other one; OtherCards."""
    if len(one) != len(other):
        raise OtherCards()
    positions = {place: at for at, place in enumerate(other)}
    return [positions[place] for place in one]


def unlike_pairs(one, other):
    """How many pairs of places stand the other way about in the two orders; OtherCards."""
    row = goals(one, other)
    return len([at for at in range(len(row)) for before in range(at) if row[before] > row[at]])


def first_unlike(row):
    """The first position in a row of goals that must be exchanged with the next one, or None."""
    for at in range(len(row) - 1):
        if row[at] > row[at + 1]:
            return at
    return None


def exchanges(one, other):
    """A row of exchanges, as short as can be, from the one order to the other; OtherCards."""
    row = goals(one, other)
    steps = []
    at = first_unlike(row)
    while at is not None:
        row[at], row[at + 1] = row[at + 1], row[at]
        steps.append(at)
        at = first_unlike(row)
    return steps


def unlike_tops(one, other):
    """The rising list of pairs (low, high) that are a part of both orders' trees, with unlike tops."""
    tops = tops_of(shape_of(other))
    return [(low, high) for low, high, top in parts_of(shape_of(one)) if tops.get((low, high), top) != top]


def led(one, other):
    """("row", row) of free exchanges between two orders of one shape, else ("part", low, high); OtherCards."""
    # Two places that stand the other way about in orders of one shape hang beneath one
    # between them, so the shortest row, whichever it is, has free exchanges alone.
    row = exchanges(one, other)
    unlike = unlike_tops(one, other)
    if len(unlike) == 0:
        return ("row", row)
    return ("part", unlike[0][0], unlike[0][1])


def row_right(one, other, row):
    """True where row is one of free exchanges that lead to the other order, as short as can be."""
    if not isinstance(row, (list, tuple)) or len(row) != unlike_pairs(one, other):
        return False
    if not all([is_whole(k) for k in row]):
        return False
    try:
        return exchanged_by(one, row) == (other, [])
    except NoPlace:
        return False


def led_right(one, other, thing):
    """True where thing, whatever it is, is a right answer of led for two orders of one n."""
    if not isinstance(thing, tuple):
        return False
    if len(thing) == 2 and thing[0] == "row":
        return row_right(one, other, thing[1])
    if len(thing) == 3 and thing[0] == "part":
        # A truth would pass for 0 or 1.
        return is_whole(thing[1]) and is_whole(thing[2]) and thing[1:] in unlike_tops(one, other)
    return False
