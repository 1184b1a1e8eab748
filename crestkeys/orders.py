"""The orders of one shape: their numbers, and how often a place comes where in them."""

from crestkeys.errors import NoNumber, NoPlace
from crestkeys.reckoning import choose
from crestkeys.shapecounts import orders_many
from crestkeys.shapes import check_shape, halves, shape_of, tops_of


def part_between(tops, low, high):
    """A list of the part with the places from low to high; empty where there is no place."""
    if low > high:
        return []
    return [(low, high, tops[(low, high)])]


def gone_on(tops, waiting, part):
    """The parts that wait behind the top of one of them: the other ones, and those right beneath it."""
    low, high, top = part
    others = [other for other in waiting if other != part]
    return others + part_between(tops, low, top - 1) + part_between(tops, top + 1, high)


def choices(waiting, ways):
    """For each part that waits, rising, the pair of it and how many of so many ways go on with its top."""
    left = sum([high - low + 1 for low, high, top in waiting])
    return [(part, ways * (part[1] - part[0] + 1) // left) for part in sorted(waiting)]


def order_at(shape, number):
    """The order of the shape with the number, from 0, as tuples rise; NoShape, then NoNumber."""
    ways = orders_many(shape)
    if not 0 <= number < ways:
        raise NoNumber(number)
    tops = tops_of(shape)
    waiting = part_between(tops, 0, len(shape) - 1)
    order = []
    rest = number
    while len(waiting) > 0:
        rows = choices(waiting, ways)
        at = 0
        while rest >= rows[at][1]:
            rest -= rows[at][1]
            at += 1
        part, ways = rows[at]
        order.append(part[2])
        waiting = gone_on(tops, waiting, part)
    return tuple(order)


def order_number(order):
    """The order's number among the orders of its shape."""
    shape = shape_of(order)
    tops = tops_of(shape)
    waiting = part_between(tops, 0, len(shape) - 1)
    ways = orders_many(shape)
    number = 0
    for place in order:
        rows = choices(waiting, ways)
        number += sum([many for part, many in rows if part[2] < place])
        part, ways = [row for row in rows if row[0][2] == place][0]
        waiting = gone_on(tops, waiting, part)
    return number


def ways_about(ahead, more_ahead, behind, more_behind):
    """How many ways there are to mix two rows that stand about one thing, ahead of it and behind it."""
    return choose(ahead + more_ahead, ahead) * choose(behind + more_behind, behind)


def mixed_with(times, many):
    """How often a thing comes at each position where its row is mixed with one of so many others."""
    found = [0] * (len(times) + many)
    for at, often in enumerate(times):
        for more in range(many + 1):
            found[at + more] += often * ways_about(at, more, len(times) - 1 - at, many - more)
    return found


def times_at(shape, place):
    """A list: in how many orders of the shape the place comes at each position."""
    top = shape[0]
    left, right = halves(shape)
    if place == top:
        return [orders_many(shape)] + [0] * (len(shape) - 1)
    if place < top:
        times, beside = times_at(left, place), right
    else:
        times, beside = times_at(right, place - top - 1), left
    return [0] + [often * orders_many(beside) for often in mixed_with(times, len(beside))]


def check_place(shape, place):
    """Refuses what is no place of the shape."""
    if not 0 <= place < len(shape):
        raise NoPlace(place)


def come_at(shape, place):
    """In how many orders of the shape the place comes at each position; NoShape, then NoPlace."""
    check_shape(shape)
    check_place(shape, place)
    return tuple(times_at(shape, place))


def times_ahead(times, others):
    """How often a thing comes ahead of another one where their rows are mixed; both by their positions."""
    found = 0
    for at, often in enumerate(times):
        # Those of the other row that come ahead of the thing must end ahead of the other one.
        ways = 0
        for other in range(len(others)):
            ways += ways_about(at, other, len(times) - 1 - at, len(others) - other) * sum(others[other:])
        found += often * ways
    return found


def ahead_within(shape, one, other):
    """In how many orders of the shape the one place comes ahead of the other one."""
    top = shape[0]
    left, right = halves(shape)
    if one == top:
        return orders_many(shape)
    if other == top:
        return 0
    if one < top and other < top:
        return ahead_within(left, one, other) * orders_many(right) * choose(len(shape) - 1, len(right))
    if one > top and other > top:
        inner = ahead_within(right, one - top - 1, other - top - 1)
        return inner * orders_many(left) * choose(len(shape) - 1, len(left))
    if one < other:
        return times_ahead(times_at(left, one), times_at(right, other - top - 1))
    return times_ahead(times_at(right, one - top - 1), times_at(left, other))


def ahead_many(shape, one, other):
    """In how many orders of the shape the one place comes ahead of the other one; NoShape, then NoPlace."""
    check_shape(shape)
    check_place(shape, one)
    check_place(shape, other)
    return ahead_within(shape, one, other)
