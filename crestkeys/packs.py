"""Packs: lists of at most 64 cards, no two of one key, and their orders."""

from crestkeys.errors import TooMany, Twice

MOST_CARDS = 64


def checked(cards):
    """A list of the same cards; Twice or TooMany where they are no pack."""
    seen = set()
    for card in cards:
        if card[0] in seen:
            raise Twice(card[0])
        seen.add(card[0])
    if len(cards) > MOST_CARDS:
        raise TooMany(MOST_CARDS)
    return list(cards)


def by_keys(pack):
    """A list of the cards by rising keys."""
    return sorted(pack, key=lambda card: card[0])


def by_ranks(pack):
    """A list of the cards from the one that outranks all others down."""
    return sorted(pack, key=lambda card: (-card[1], card[0]))


def order_of(pack):
    """The order of the pack: for each card, by falling ranks, how many lesser keys there are."""
    places = {card[0]: place for place, card in enumerate(by_keys(pack))}
    return tuple([places[card[0]] for card in by_ranks(pack)])


def pack_of(order, keys):
    """The pack of an order for rising keys; ranks fall from their count to 1, worths are 0."""
    many = len(order)
    return [(keys[place], many - at, 0) for at, place in enumerate(order)]
