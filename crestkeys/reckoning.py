"""Powers, ways to choose, and fractions, as tuples (top, bottom) in lowest terms."""


def power(base, times):
    """The product of so many times the base; 1 of none."""
    found = 1
    for step in range(times):
        found *= base
    return found


def factorial(n):
    """The product of 1 to n."""
    found = 1
    for by in range(2, n + 1):
        found *= by
    return found


def choose(n, k):
    """How many ways there are to choose k of n things."""
    found = 1
    for step in range(k):
        found = found * (n - step) // (step + 1)
    return found


def common(one, other):
    """The greatest common divisor of two whole numbers that are not below 0."""
    while other != 0:
        one, other = other, one % other
    return one


def lowest(top, bottom):
    """The fraction top by bottom, which is above 0, in lowest terms."""
    by = common(abs(top), bottom)
    return (top // by, bottom // by)


def added(one, other):
    """The sum of two fractions."""
    return lowest(one[0] * other[1] + other[0] * one[1], one[1] * other[1])


def total_of(fractions):
    """The sum of a list of fractions; nought of none."""
    found = (0, 1)
    for fraction in fractions:
        found = added(found, fraction)
    return found
