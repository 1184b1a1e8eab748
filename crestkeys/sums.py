"""The sums of a tree: for each key (many, total, ahead, behind, within) of its part."""

from crestkeys.crests import holds
from crestkeys.trees import parts_in

NOUGHTS = (0, 0, 0, 0, 0)


def entry_made(worth, left, right):
    """The entry of a card with the worth, made of those of its left and right part."""
    many = left[0] + 1 + right[0]
    total = left[1] + worth + right[1]
    ahead = max(left[2], left[1] + worth + right[2])
    behind = max(right[3], left[3] + worth + right[1])
    within = max(left[4], right[4], left[3] + worth + right[2])
    return (many, total, ahead, behind, within)


def entry_of(part, sums):
    """The entry that the dict has for the part's top; five noughts of ()."""
    if part == ():
        return NOUGHTS
    return sums[part[1][0]]


def entry_due(part, sums):
    """The entry that the part's top must have by the dict's own entries right beneath it."""
    left, card, right = part
    return entry_made(card[2], entry_of(left, sums), entry_of(right, sums))


def add_sums(part, sums):
    """Adds the entries of all cards of the part to the dict."""
    if part == ():
        return
    # Those beneath come first, for the entry of a card is made of theirs.
    add_sums(part[0], sums)
    add_sums(part[2], sums)
    sums[part[1][0]] = entry_due(part, sums)


def sums_of(tree):
    """The dict of the sums of the tree."""
    sums = {}
    add_sums(tree, sums)
    return sums


def sums_fault(tree, sums):
    """The first fault of a dict: ("lacks", key), ("wrong", key), ("spare", key); None of the sums."""
    parts = parts_in(tree)
    for part in parts:
        if part[1][0] not in sums:
            return ("lacks", part[1][0])
    for part in parts:
        if entry_of(part, sums) != entry_due(part, sums):
            return ("wrong", part[1][0])
    spare = [key for key in sums if not holds(tree, key)]
    if len(spare) > 0:
        return ("spare", min(spare))
    return None
