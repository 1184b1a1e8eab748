"""How many orders of so many cards have trees that are at most so high."""

from crestkeys.cards import is_whole
from crestkeys.reckoning import choose


def entry_by(table, m, g):
    """How many orders of m cards have no road of more than g cards, by the table's own numbers of fewer cards."""
    if m == 0:
        return 1
    if g == 0:
        return 0
    return sum([choose(m - 1, k) * table[k][g - 1] * table[m - 1 - k][g - 1] for k in range(m)])


def heights(n, h):
    """For each m from 0 to n a list: for each g from 0 to h how many orders of m cards are at most g high."""
    table = []
    for m in range(n + 1):
        table.append([entry_by(table, m, g) for g in range(h + 1)])
    return table


def is_height_row(thing, h):
    """True where thing, whatever it is, has the form of a row of the heights of h."""
    return isinstance(thing, list) and len(thing) == h + 1 and all([is_whole(number) for number in thing])


def heights_hold(n, h, thing):
    """True where thing, whatever it is, is the heights of n, h."""
    if not isinstance(thing, list) or len(thing) != n + 1:
        return False
    if not all([is_height_row(row, h) for row in thing]):
        return False
    return all([number == entry_by(thing, m, g) for m, row in enumerate(thing) for g, number in enumerate(row)])
