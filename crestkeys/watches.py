"""Watches: puts, takes and looks that go on by what they see, and what their ends tell of a deal."""

from crestkeys.errors import NoNumber, NoWatch
from crestkeys.facts import all_hold, orders_holding, orders_many
from crestkeys.histories import first_unlike, item_of, pairs_of, puts_behind, shape_seen, shape_share
from crestkeys.reckoning import added, factorial, lowest
from crestkeys.shapecounts import shape_at, shape_count


def is_wrong(watch, stands):
    """True where the watch's own deed or look can't be done; stands is a list of keys."""
    key = watch[1]
    if watch[0] == "put":
        return key in stands
    if watch[0] == "take":
        return key not in stands
    return key == watch[2] or key not in stands or watch[2] not in stands


def number_behind(watch, number, stands):
    """The number behind all in the watch, whose own is told; NoWatch with the number of the first wrong one."""
    if watch[0] == "end":
        return number + 1
    if is_wrong(watch, stands):
        raise NoWatch(number)
    if watch[0] == "above":
        return number_behind(watch[4], number_behind(watch[3], number + 1, stands), stands)
    behind = [key for key in stands if key != watch[1]]
    if watch[0] == "put":
        behind.append(watch[1])
    return number_behind(watch[2], number + 1, behind)


def fact_of(watch, stands, holds):
    """The fact of a look that goes on with yes, holds True, or with no; stands has the items by their keys."""
    key = watch[1]
    low = min(key, watch[2])
    high = max(key, watch[2])
    others = [stands[other] for other in stands if low <= other <= high and other != key]
    return (stands[key], tuple(sorted(others)), holds)


def ends_from(watch, way, puts, stands, facts):
    """A list of (pairs, items dealt, facts) of each end in the watch, behind what was done on the way there."""
    if watch[0] == "end":
        return [(pairs_of(stands), len(puts), facts)]
    if watch[0] == "above":
        yes = ends_from(watch[3], way, puts, stands, facts + [fact_of(watch, stands, True)])
        return yes + ends_from(watch[4], way, puts, stands, facts + [fact_of(watch, stands, False)])
    key = watch[1]
    behind = {other: stands[other] for other in stands if other != key}
    if watch[0] == "put":
        puts = puts_behind(puts, way, key)
        behind[key] = item_of(puts, key)
    return ends_from(watch[2], way, puts, behind, facts)


def ends_of(watch, way):
    """A list of (pairs, items dealt, facts) of each end of the watch, from the left; NoWatch."""
    number_behind(watch, 0, [])
    return ends_from(watch, way, [], {}, [])


def ends_many(watch):
    """How many ends the watch has; NoWatch."""
    return len(ends_of(watch, "kept"))


def end_way(watch, way, end):
    """(pairs, items dealt, facts) of the way to an end; NoWatch, then NoNumber."""
    ends = ends_of(watch, way)
    if not 0 <= end < len(ends):
        raise NoNumber(end)
    return ends[end]


def end_share(watch, way, end):
    """The share of all deals that come to an end; NoWatch, then NoNumber."""
    pairs, many, facts = end_way(watch, way, end)
    return lowest(orders_many(many, facts), factorial(many))


def shapes_counted(pairs, orders):
    """For each shape of the keys of the pairs that some order sees how many see it."""
    counts = {}
    for order in orders:
        shape = shape_seen(pairs, order)
        counts[shape] = counts.get(shape, 0) + 1
    return counts


def end_tells(watch, way, end):
    """("never",), or ("tells", shape, share, due), or ("nothing",); NoWatch, then NoNumber."""
    pairs, many, facts = end_way(watch, way, end)
    orders = orders_holding(many, facts)
    if len(orders) == 0:
        return ("never",)
    counts = shapes_counted(pairs, orders)
    for number in range(shape_count(len(pairs))):
        shape = shape_at(len(pairs), number)
        share = lowest(counts.get(shape, 0), len(orders))
        due = shape_share(shape)
        if share != due:
            return ("tells", shape, share, due)
    return ("nothing",)


def last_shares(watch, way):
    """For each pair (keys, shape) that is seen at last its share, of all ends together; NoWatch."""
    shares = {}
    for pairs, many, facts in ends_of(watch, way):
        keys = tuple([key for key, item in pairs])
        counts = shapes_counted(pairs, orders_holding(many, facts))
        for shape in counts:
            seen = (keys, shape)
            shares[seen] = added(shares.get(seen, (0, 1)), (counts[shape], factorial(many)))
    return shares


def last_seen(watch, way):
    """The rising list of (keys, shape, share) of what is seen at last, none of share 0; NoWatch."""
    shares = last_shares(watch, way)
    return [seen + (shares[seen],) for seen in sorted(shares)]


def parted(one, other, way):
    """(keys, shape, share, share) where the last trees of two watches first part, or None; NoWatch."""
    unlike = first_unlike(last_shares(one, way), last_shares(other, way))
    if unlike is None:
        return None
    seen, share, beside = unlike
    return seen + (share, beside)


def walked(watch, way, order):
    """The end to which the watch comes by a deal, and the shape of what stands there; NoWatch."""
    ends = ends_of(watch, way)
    # At each look just one of the two facts holds, so there is just one such end.
    end = [all_hold(order, facts) for pairs, many, facts in ends].index(True)
    return (end, shape_seen(ends[end][0], order))
