"""Fractions, as tuples (top, bottom) in lowest terms."""


def common(one, other):
    """The greatest common divisor of two whole numbers that are not below 0."""
    while other != 0:
        one, other = other, one % other
    return one


def lowest(top, bottom):
    """The fraction top by bottom, which is above 0, in lowest terms."""
    by = common(abs(top), bottom)
    return (top // by, bottom // by)


def added(one, other):
    """The sum of two fractions."""
    return lowest(one[0] * other[1] + other[0] * one[1], one[1] * other[1])
