"""Seams and edges, and cards put in a crest and taken out of it by turns."""

from crestkeys.cards import outranks
from crestkeys.crests import card_at, part_at, road
from crestkeys.turns import leafed, turned


def always_left(tree):
    """A list of the keys from the top on always to the left."""
    met = []
    while tree != ():
        met.append(tree[1][0])
        tree = tree[0]
    return met


def always_right(tree):
    """A list of the keys from the top on always to the right."""
    met = []
    while tree != ():
        met.append(tree[1][0])
        tree = tree[2]
    return met


def seam(tree, key):
    """The two rows of the key's seam, of its left and of its right part; NoKey."""
    part = part_at(tree, key)
    return (always_right(part[0]), always_left(part[2]))


def edges(tree):
    """The two edges of the tree, to the left and to the right."""
    return (always_left(tree), always_right(tree))


def rises(tree, card):
    """True where the card of the tree outranks the one that it hangs right beneath."""
    met = road(tree, card[0])
    return len(met) > 1 and outranks(card, card_at(tree, met[-2]))


def gone_up(tree, card):
    """The tree in which its card has gone up as long as it rises, and the row of turns that did it."""
    row = []
    while rises(tree, card):
        tree = turned(tree, card[0])
        row.append(card[0])
    return (tree, row)


def put_in(crest, card):
    """The crest with the card, and the row of turns that put it in; Twice, then TooMany."""
    return gone_up(leafed(crest, card), card)


def next_beneath(part):
    """Of the tops right beneath a part's own the key of the one that outranks the other, or None."""
    left, card, right = part
    if left == () and right == ():
        return None
    if right == () or (left != () and outranks(left[1], right[1])):
        return left[1][0]
    return right[1][0]


def without_leaf(tree, key):
    """The tree without the key's card, beneath which nothing hangs."""
    left, card, right = tree
    if card[0] == key:
        return ()
    if key < card[0]:
        return (without_leaf(left, key), card, right)
    return (left, card, without_leaf(right, key))


def take_out(crest, key):
    """The crest without the key's card, and the row of turns that took it out; NoKey."""
    tree = crest
    row = []
    other = next_beneath(part_at(tree, key))
    while other is not None:
        tree = turned(tree, other)
        row.append(other)
        other = next_beneath(part_at(tree, key))
    return (without_leaf(tree, key), row)
