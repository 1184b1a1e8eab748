"""Heights above which no greater share of all trees goes than is told, and papers that show it."""

from crestkeys.cards import is_whole
from crestkeys.depths import are_counts, crowd, gap_sums
from crestkeys.heights import heights, heights_hold
from crestkeys.reckoning import choose, factorial, power

LEAST_FACTOR = 2
GREATEST_FACTOR = 8


def is_at_most(number, p, times):
    """True where the number is at most the share p of so many."""
    return number * p[1] <= p[0] * times


def meets_by_heights(table, n, h, p):
    """True where by the heights of n and of h or more at most the share p of all trees is higher than h."""
    return is_at_most(factorial(n) - table[n][h], p, factorial(n))


def meets_by_crowd(many, n, h, p):
    """True where by the crowd of n there are at most the share p of all orders' number of cards so deep."""
    deep = many[h] if h < n else 0
    return is_at_most(deep, p, factorial(n))


def meets_by_factor(n, h, p, x):
    """True where by the factor x at most the share p of all trees can be higher than h."""
    return is_at_most(choose(n + 2 * x - 1, 2 * x - 1), p, 2 * power(x, h + 1))


def least_height(n, p):
    """The least h such that at most the share p of all trees of n cards is higher."""
    # None is higher than n, so it is found there at the latest.
    table = heights(n, n)
    h = 0
    while not meets_by_heights(table, n, h, p):
        h += 1
    return h


def height_by_crowd(n, p):
    """The least h at which the crowd of n is at most the share p of all orders' number."""
    many = crowd(n)
    h = 0
    while not meets_by_crowd(many, n, h, p):
        h += 1
    return h


def height_by_factor(n, p, x):
    """The least h for which the bound by the factor x is at most p."""
    h = 0
    while not meets_by_factor(n, h, p, x):
        h += 1
    return h


def paper_for(n, h, p):
    """A paper that at most the share p of all trees of n cards is higher than h; None where it is not so."""
    table = heights(n, h)
    if not meets_by_heights(table, n, h, p):
        return None
    return ("heights", table)


def is_crowd(n, thing):
    """True where thing, whatever it is, is the crowd of n."""
    if not are_counts(thing, n):
        return False
    # Times 2 * x - 1 it must be the product of all 2 * x + k - 1, less n!, at each power of x.
    due = list(gap_sums(n))
    due[0] -= factorial(n)
    return [2 * less - own for less, own in zip((0,) + thing, thing + (0,))] == due


def is_factor(thing):
    """True where thing, whatever it is, is a factor."""
    return is_whole(thing) and LEAST_FACTOR <= thing <= GREATEST_FACTOR


def shows_low(n, h, p, thing):
    """True where thing, whatever it is, is a paper that at most the share p of all trees is higher than h."""
    if not isinstance(thing, tuple) or len(thing) != 2:
        return False
    word, told = thing
    if word == "heights":
        return heights_hold(n, h, told) and meets_by_heights(told, n, h, p)
    if word == "crowd":
        return is_crowd(n, told) and meets_by_crowd(told, n, h, p)
    return word == "factor" and is_factor(told) and meets_by_factor(n, h, p, told)
