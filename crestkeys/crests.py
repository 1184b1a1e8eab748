"""The crest of a pack, and what is found in a tree by the road to a key."""

from crestkeys.cards import outranks
from crestkeys.errors import NoKey
from crestkeys.packs import by_keys
from crestkeys.trees import cards_in


def place_of_top(cards):
    """The place, in a list that is not empty, of the card that outranks all others."""
    best = 0
    for at, card in enumerate(cards):
        if outranks(card, cards[best]):
            best = at
    return best


def crest_of_rising(cards):
    """The crest of cards that are listed by rising keys."""
    if len(cards) == 0:
        return ()
    at = place_of_top(cards)
    return (crest_of_rising(cards[:at]), cards[at], crest_of_rising(cards[at + 1:]))


def crest_of(pack):
    """The one crest of the cards, in whatever row they come."""
    return crest_of_rising(by_keys(pack))


def road(tree, key):
    """A list of all keys met on the road to the key."""
    met = []
    part = tree
    while part != ():
        left, card, right = part
        met.append(card[0])
        if card[0] == key:
            return met
        part = left if key < card[0] else right
    return met


def holds(tree, key):
    """True where a card of the tree has the key."""
    met = road(tree, key)
    return len(met) > 0 and met[-1] == key


def part_at(tree, key):
    """The part whose top has the key; NoKey where there is none."""
    part = tree
    while part != ():
        left, card, right = part
        if card[0] == key:
            return part
        part = left if key < card[0] else right
    raise NoKey(key)


def card_at(tree, key):
    """The card with the key; NoKey where there is none."""
    return part_at(tree, key)[1]


def top_within(tree, low, high):
    """Of the cards with keys from low to high the one that outranks all others, or None."""
    # All cards are looked at, for a tree that is no crest may have it anywhere.
    within = [card for card in cards_in(tree) if low <= card[0] <= high]
    if len(within) == 0:
        return None
    return within[place_of_top(within)]
