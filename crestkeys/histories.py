"""Histories, rows of puts, takes and looks: what the looks see by a deal, and by all deals."""

from crestkeys.errors import NoHistory, TooMany
from crestkeys.facts import orders_holding
from crestkeys.reckoning import factorial, lowest
from crestkeys.shapecounts import orders_many
from crestkeys.shapes import shape_of

MOST_SEEN = 6


def puts_behind(puts, way, key):
    """For each item the key that it was dealt to, behind a put of the key too."""
    # By "kept" a key that was put before has its item already.
    if way == "kept" and key in puts:
        return puts
    return puts + [key]


def item_of(puts, key):
    """The item of the last put of the key."""
    return len(puts) - 1 - puts[::-1].index(key)


def pairs_of(stands):
    """The tuple of rising pairs (key, item) of a dict of what stands."""
    return tuple(sorted(stands.items()))


def states_of(history, way):
    """For each deed the pairs (key, item), rising, that stand behind it; NoHistory."""
    states = []
    puts = []
    stands = {}
    for at, deed in enumerate(history):
        if deed[0] != "look":
            key = deed[1]
            if (deed[0] == "put") == (key in stands):
                raise NoHistory(at)
            if deed[0] == "put":
                puts = puts_behind(puts, way, key)
                stands[key] = item_of(puts, key)
            else:
                del stands[key]
        states.append(pairs_of(stands))
    return states


def looks_at(history, way):
    """For each look the pairs (key, item), rising, that stand there; NoHistory."""
    states = states_of(history, way)
    return [state for deed, state in zip(history, states) if deed[0] == "look"]


def items_many(history, way):
    """How many items the history deals; NoHistory."""
    return len({item for state in states_of(history, way) for key, item in state})


def shape_seen(pairs, order):
    """The shape of the keys of rising pairs (key, item), by a deal."""
    places = {item: place for place, (key, item) in enumerate(pairs)}
    return shape_of([places[item] for item in order if item in places])


def row_seen(looks, order):
    """The tuple of the shapes that looks see by a deal."""
    return tuple([shape_seen(pairs, order) for pairs in looks])


def seen_by(history, way, order):
    """The tuple of the shapes that the looks of the history see by a deal; NoHistory."""
    return row_seen(looks_at(history, way), order)


def check_few(history, way):
    """Refuses a history with too many items or looks; NoHistory goes ahead."""
    if items_many(history, way) > MOST_SEEN or len(looks_at(history, way)) > MOST_SEEN:
        raise TooMany(MOST_SEEN)


def counts_seen(history, way):
    """For each row of shapes that is seen how many deals see it."""
    looks = looks_at(history, way)
    counts = {}
    for order in orders_holding(items_many(history, way), []):
        row = row_seen(looks, order)
        counts[row] = counts.get(row, 0) + 1
    return counts


def rows_seen(history, way):
    """The rising list of pairs of a row of shapes and how many deals see it; NoHistory, then TooMany."""
    check_few(history, way)
    counts = counts_seen(history, way)
    return [(row, counts[row]) for row in sorted(counts)]


def first_unlike_keys(one, other, way):
    """The first look at which unlike keys stand, or that one history alone has; None where there is none."""
    ones = [[key for key, item in pairs] for pairs in looks_at(one, way)]
    others = [[key for key, item in pairs] for pairs in looks_at(other, way)]
    for at in range(max(len(ones), len(others))):
        # Behind the last look a slice is empty, where an index would fail.
        if ones[at:at + 1] != others[at:at + 1]:
            return at
    return None


def shares_seen(history, way):
    """For each row of shapes that is seen its share of all deals."""
    deals = factorial(items_many(history, way))
    counts = counts_seen(history, way)
    return {row: lowest(counts[row], deals) for row in counts}


def first_unlike(ones, others):
    """Of two dicts of shares the first key with unlike ones, and both; None where there is none."""
    for seen in sorted({**ones, **others}):
        share = ones.get(seen, (0, 1))
        beside = others.get(seen, (0, 1))
        if share != beside:
            return (seen, share, beside)
    return None


def held(one, other, way):
    """("keys", at), or ("row", row, share, share), or ("alike",); NoHistory, then TooMany."""
    # Each of the two is gone through ahead of its size, for NoHistory goes ahead of TooMany.
    at = first_unlike_keys(one, other, way)
    check_few(one, way)
    check_few(other, way)
    if at is not None:
        return ("keys", at)
    unlike = first_unlike(shares_seen(one, way), shares_seen(other, way))
    if unlike is None:
        return ("alike",)
    return ("row",) + unlike


def shape_share(shape):
    """The share of all deals by which one look sees the shape; NoShape."""
    return lowest(orders_many(shape), factorial(len(shape)))
