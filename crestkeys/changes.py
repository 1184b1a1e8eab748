"""Trees with other worths, and cards of a crest ranked anew by turns."""

from crestkeys.cards import outranks
from crestkeys.crests import card_at, part_at
from crestkeys.seams import gone_up, next_beneath
from crestkeys.turns import turned


def raised(tree, low, high, amount):
    """The tree with the worths of all cards with keys from low to high greater by the amount."""
    if tree == ():
        return ()
    left, card, right = tree
    if low <= card[0] <= high:
        card = (card[0], card[1], card[2] + amount)
    return (raised(left, low, high, amount), card, raised(right, low, high, amount))


def with_card(tree, new):
    """The tree with a card in the place of the one with its key."""
    left, card, right = tree
    if card[0] == new[0]:
        return (left, new, right)
    if new[0] < card[0]:
        return (with_card(left, new), card, right)
    return (left, card, with_card(right, new))


def next_above(tree, card):
    """Of the cards right beneath the tree's card the key of the one that must go above it, or None."""
    other = next_beneath(part_at(tree, card[0]))
    if other is None or not outranks(card_at(tree, other), card):
        return None
    return other


def gone_down(tree, card):
    """The tree in which its card has gone down as long as one right beneath outranks it, and the row."""
    row = []
    other = next_above(tree, card)
    while other is not None:
        tree = turned(tree, other)
        row.append(other)
        other = next_above(tree, card)
    return (tree, row)


def ranked(crest, key, rank):
    """The crest in which the key's card has the rank, and the row of turns that led there; NoKey."""
    card = (key, rank, card_at(crest, key)[2])
    # A card that went up outranks all beneath it, so at most one of the two rows has turns.
    tree, ups = gone_up(with_card(crest, card), card)
    tree, downs = gone_down(tree, card)
    return (tree, ups + downs)
