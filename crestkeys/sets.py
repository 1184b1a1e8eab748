"""Two crests put together, what they share, and in which keys two trees differ."""

from crestkeys.crests import crest_of, holds
from crestkeys.errors import TooMany
from crestkeys.packs import MOST_CARDS
from crestkeys.trees import cards_in


def keys_of_both(one, other):
    """A rising list of the keys of either tree, each once."""
    return sorted({card[0] for card in cards_in(one) + cards_in(other)})


def check_keys(one, other):
    """Refuses two trees that have more keys together than a pack may have cards."""
    if len(keys_of_both(one, other)) > MOST_CARDS:
        raise TooMany(MOST_CARDS)


def together(one, other):
    """The crest of the cards of both, of a key that both have the first one's; TooMany."""
    check_keys(one, other)
    return crest_of(cards_in(one) + cards_in(without(other, one)))


def shared(one, other):
    """The crest of the one's cards whose keys the other has."""
    return crest_of([card for card in cards_in(one) if holds(other, card[0])])


def without(one, other):
    """The crest of the one's cards whose keys the other has not."""
    return crest_of([card for card in cards_in(one) if not holds(other, card[0])])


def differ(one, other):
    """A rising list of the keys that just one tree has or at which they have unlike cards."""
    ones = {card[0]: card for card in cards_in(one)}
    others = {card[0]: card for card in cards_in(other)}
    return [key for key in keys_of_both(one, other) if ones.get(key) != others.get(key)]
