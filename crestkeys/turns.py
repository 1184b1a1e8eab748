"""Turns in a tree, and cards put in as leaves."""

from crestkeys.crests import holds
from crestkeys.errors import NoKey, NoTurn, TooMany, Twice
from crestkeys.packs import MOST_CARDS
from crestkeys.trees import cards_in


def turned(tree, key):
    """The tree behind a turn at the key; NoKey, then NoTurn at the top's."""
    if not holds(tree, key):
        raise NoKey(key)
    if tree[1][0] == key:
        raise NoTurn(key)
    return turned_beneath(tree, key)


def turned_beneath(tree, key):
    """The tree behind a turn at a key that hangs somewhere beneath its top."""
    left, card, right = tree
    if key < card[0]:
        if left[1][0] == key:
            return (left[0], left[1], (left[2], card, right))
        return (turned_beneath(left, key), card, right)
    if right[1][0] == key:
        return ((left, card, right[0]), right[1], right[2])
    return (left, card, turned_beneath(right, key))


def turned_by(tree, row):
    """The tree behind all turns of a row, one behind the other."""
    for key in row:
        tree = turned(tree, key)
    return tree


def leafed(tree, card):
    """The tree with the card at the end of the road to its key; Twice, then TooMany."""
    if holds(tree, card[0]):
        raise Twice(card[0])
    if len(cards_in(tree)) >= MOST_CARDS:
        raise TooMany(MOST_CARDS)
    return with_leaf(tree, card)


def with_leaf(tree, new):
    """The tree with a new card, whose key it has not, at the end of the road to its key."""
    if tree == ():
        return ((), new, ())
    left, card, right = tree
    if new[0] < card[0]:
        return (with_leaf(left, new), card, right)
    return (left, card, with_leaf(right, new))
