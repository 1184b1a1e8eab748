"""How many shapes there are, their numbers, and how many orders have one shape."""

from crestkeys.errors import NoNumber
from crestkeys.reckoning import factorial
from crestkeys.shapes import check_shape, halves, parts_of


def ways_to_halve(counts, n):
    """How many pairs of a left and a right part there are with n - 1 places; counts tells of each."""
    return sum([counts[top] * counts[n - 1 - top] for top in range(n)])


def counts_to(n):
    """A list of the numbers of shapes of 0 to n places."""
    counts = [1]
    for many in range(1, n + 1):
        counts.append(ways_to_halve(counts, many))
    return counts


def shape_count(n):
    """How many shapes of n there are."""
    return counts_to(n)[n]


def shapes_high(n, h):
    """How many shapes of n are at most h high."""
    counts = [1] + [0] * n
    for step in range(h):
        counts = [1] + [ways_to_halve(counts, many) for many in range(1, n + 1)]
    return counts[n]


def numbered(counts, n, number):
    """The shape of n with a number that there is."""
    if n == 0:
        return ()
    top = 0
    # Shapes rise by their tops, then by their left parts, then by their right parts.
    while number >= counts[top] * counts[n - 1 - top]:
        number -= counts[top] * counts[n - 1 - top]
        top += 1
    by = counts[n - 1 - top]
    right = numbered(counts, n - 1 - top, number % by)
    return (top,) + numbered(counts, top, number // by) + tuple([top + 1 + place for place in right])


def shape_at(n, number):
    """The shape of n with the number, from 0, as tuples rise; NoNumber."""
    counts = counts_to(n)
    if not 0 <= number < counts[n]:
        raise NoNumber(number)
    return numbered(counts, n, number)


def number_by(counts, shape):
    """The number of a shape among those with as many places."""
    if shape == ():
        return 0
    left, right = halves(shape)
    ahead = sum([counts[top] * counts[len(shape) - 1 - top] for top in range(shape[0])])
    return ahead + number_by(counts, left) * counts[len(right)] + number_by(counts, right)


def shape_number(shape):
    """The shape's number among those with as many places; NoShape."""
    check_shape(shape)
    return number_by(counts_to(len(shape)), shape)


def orders_many(shape):
    """How many orders have the shape; NoShape."""
    by = 1
    for low, high, top in parts_of(shape):
        by *= high - low + 1
    return factorial(len(shape)) // by
