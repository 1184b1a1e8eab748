"""How many orders put a card how deep, the tables of it, and the depths of gaps and of all cards."""

from crestkeys.cards import is_whole
from crestkeys.reckoning import factorial


def counts_by(table, a, b):
    """The counts for a, b, made of the table's own for lesser numbers."""
    found = [factorial(a + b)] + [0] * (a + b)
    # Where the card is not the top, it lies in a part with as many cards as that part's counts are long.
    lesser = [table[k][b] for k in range(a)] + [table[a][k] for k in range(b)]
    for counts in lesser:
        times = factorial(a + b) // factorial(len(counts))
        for d, many in enumerate(counts):
            found[d + 1] += times * many
    return tuple(found)


def depth_table(left, right):
    """A list, for each a from 0 to left, of lists of the counts for a and each b from 0 to right."""
    table = []
    for a in range(left + 1):
        table.append([])
        for b in range(right + 1):
            table[a].append(counts_by(table, a, b))
    return table


def depth_counts(a, b):
    """A tuple: of how many orders of a + b + 1 cards the card a has the depth 0, 1 and so on."""
    return depth_table(a, b)[a][b]


def are_counts(thing, many):
    """True where thing, whatever it is, is a tuple of so many whole numbers."""
    return isinstance(thing, tuple) and len(thing) == many and all([is_whole(number) for number in thing])


def is_row_for(thing, a, right):
    """True where thing, whatever it is, has the form of a table's row for a."""
    if not isinstance(thing, list) or len(thing) != right + 1:
        return False
    return all([are_counts(counts, a + b + 1) for b, counts in enumerate(thing)])


def table_holds(left, right, thing):
    """True where thing, whatever it is, is the depth table of left, right."""
    if not isinstance(thing, list) or len(thing) != left + 1:
        return False
    if not all([is_row_for(row, a, right) for a, row in enumerate(thing)]):
        return False
    return all([counts == counts_by(thing, a, b) for a, row in enumerate(thing) for b, counts in enumerate(row)])


def gap_sums(n):
    """A tuple: how many gaps of the depth 0 to n all orders of n cards have together."""
    sums = [1]
    for k in range(1, n + 1):
        # These are the numbers at the powers of x, times 2 * x + k - 1.
        sums = [2 * less + (k - 1) * own for less, own in zip([0] + sums, sums + [0])]
    return tuple(sums)


def crowd(n):
    """A tuple: how many cards of the depth 0 to n - 1 all orders of n cards have together."""
    found = []
    # So many places there are at a depth, for a card or a gap: one at 0, two beneath each card.
    places = factorial(n)
    for gaps in gap_sums(n)[:n]:
        found.append(places - gaps)
        places = 2 * found[-1]
    return tuple(found)
