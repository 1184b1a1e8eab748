"""Crests split at a key, joined, and cut in three."""

from crestkeys.cards import outranks
from crestkeys.errors import Mingled, TooMany
from crestkeys.packs import MOST_CARDS
from crestkeys.trees import cards_in


def split(crest, key):
    """The crest of the cards with lesser keys, and that of all others."""
    if crest == ():
        return ((), ())
    left, card, right = crest
    if card[0] < key:
        less, rest = split(right, key)
        return ((left, card, less), rest)
    less, rest = split(left, key)
    return (less, (rest, card, right))


def joined(one, other):
    """The crest of all cards of both; Mingled where their keys do not lie so, then TooMany."""
    ahead = cards_in(one)
    behind = cards_in(other)
    if len(ahead) > 0 and len(behind) > 0 and ahead[-1][0] >= behind[0][0]:
        raise Mingled(behind[0][0])
    if len(ahead) + len(behind) > MOST_CARDS:
        raise TooMany(MOST_CARDS)
    return joined_rising(one, other)


def joined_rising(one, other):
    """The crest of all cards of two crests, each key of the one less than each of the other."""
    if one == ():
        return other
    if other == ():
        return one
    if outranks(one[1], other[1]):
        return (one[0], one[1], joined_rising(one[2], other))
    return (joined_rising(one, other[0]), other[1], other[2])


def cut(crest, low, high):
    """The crests of the cards with keys below low, from low to high, and above high."""
    below, rest = split(crest, low)
    within, above = split(rest, high + 1)
    return (below, within, above)
