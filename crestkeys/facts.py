"""Facts, (one, others, holds), about orders of items: the orders by which all hold, and stuck sets."""

from crestkeys.cards import is_whole
from crestkeys.shapes import is_order


def is_ahead(order, one, others):
    """True where the one stands ahead of all others in the order."""
    at = order.index(one)
    return all([at < order.index(other) for other in others])


def all_hold(order, facts):
    """True where all facts hold by the order."""
    return all([is_ahead(order, one, others) == holds for one, others, holds in facts])


def waits(facts, left, item):
    """True where, by some fact, another one of the items left must come ahead of the item."""
    for one, others, holds in facts:
        if holds and item in others and one in left:
            return True
        # Without others nothing can come ahead, so the one waits for ever.
        if not holds and item == one and all([other in left for other in others]):
            return True
    return False


def free_items(facts, left):
    """A list of those of the items left that may come next."""
    return [item for item in left if not waits(facts, left, item)]


def all_but(left, item):
    """The tuple of items left behind the item."""
    return tuple([other for other in left if other != item])


def order_by(n, facts):
    """("order", order), the least by which all facts hold, or ("stuck", items), the greatest stuck set."""
    order = []
    left = tuple(range(n))
    while len(left) > 0:
        free = free_items(facts, left)
        # What may come next may still come later, so taking the least one never leads astray.
        if len(free) == 0:
            return ("stuck", left)
        order.append(free[0])
        left = all_but(left, free[0])
    return ("order", tuple(order))


def is_stuck(n, facts, items):
    """True where items, whatever they are, are a stuck set told as a rising tuple."""
    if not isinstance(items, tuple) or len(items) == 0:
        return False
    if not all([is_whole(item) and 0 <= item < n for item in items]):
        return False
    return sorted(set(items)) == list(items) and len(free_items(facts, items)) == 0


def shows_order(n, facts, thing):
    """True where thing, whatever it is, is an order by which all facts hold, or a stuck set."""
    if not isinstance(thing, tuple) or len(thing) != 2:
        return False
    word, told = thing
    if word == "order":
        return is_order(told) and len(told) == n and all_hold(told, facts)
    return word == "stuck" and is_stuck(n, facts, told)


def orders_from(facts, left):
    """The rising list of the orders of the items left that may come behind all others."""
    if len(left) == 0:
        return [()]
    found = []
    for item in free_items(facts, left):
        found += [(item,) + rest for rest in orders_from(facts, all_but(left, item))]
    return found


def orders_holding(n, facts):
    """The rising list of all orders by which all facts hold."""
    return orders_from(facts, tuple(range(n)))


def orders_many(n, facts):
    """How many orders there are by which all facts hold."""
    # Orders that leave the same items go on alike, so they are counted together.
    ways = {tuple(range(n)): 1}
    for step in range(n):
        behind = {}
        for left, many in ways.items():
            for item in free_items(facts, left):
                rest = all_but(left, item)
                behind[rest] = behind.get(rest, 0) + many
        ways = behind
    return ways.get((), 0)
