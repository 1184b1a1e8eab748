"""Places of keys in a tree, and sums of worths."""

from crestkeys.errors import NoPlace
from crestkeys.trees import cards_in


def size(tree):
    """How many cards the tree has."""
    return len(cards_in(tree))


def place_of(tree, key):
    """How many cards have lesser keys, whether the key is there or not."""
    return len([card for card in cards_in(tree) if card[0] < key])


def sum_within(tree, low, high):
    """The sum of the worths of all cards with keys from low to high."""
    return sum([card[2] for card in cards_in(tree) if low <= card[0] <= high])


def at_place(tree, place):
    """The card of a place, from 0; NoPlace where there is none."""
    cards = cards_in(tree)
    if not 0 <= place < len(cards):
        raise NoPlace(place)
    return cards[place]
