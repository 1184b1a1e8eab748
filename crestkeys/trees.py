"""Branchings, (left, card, right) or (), and which of them are trees and crests."""

from crestkeys.cards import is_card, outranks
from crestkeys.packs import MOST_CARDS


def cards_in(branching):
    """A list of the cards from the left."""
    if branching == ():
        return []
    left, card, right = branching
    return cards_in(left) + [card] + cards_in(right)


def parts_in(branching):
    """A list of the parts, those of the left part first, then itself, then those of the right part."""
    if branching == ():
        return []
    left, card, right = branching
    return parts_in(left) + [branching] + parts_in(right)


def room_behind(thing, room):
    """How much of the room is left behind the cards of thing; -1 where they do not fit or it is no branching."""
    if not isinstance(thing, tuple):
        return -1
    if len(thing) == 0:
        return room
    # The own card is counted ahead of those beneath it, so that a thing far
    # too great, or too deep, is left after 64 cards.
    if room == 0 or len(thing) != 3 or not is_card(thing[1]):
        return -1
    rest = room_behind(thing[0], room - 1)
    if rest < 0:
        return -1
    return room_behind(thing[2], rest)


def keys_fault(cards):
    """The first number of a card whose key is not greater than that of the one ahead, or None."""
    for at in range(1, len(cards)):
        if cards[at][0] <= cards[at - 1][0]:
            return at
    return None


def uppers_in(branching, upper):
    """For each card, from the left, the one that it hangs right beneath; upper for the top."""
    if branching == ():
        return []
    left, card, right = branching
    return uppers_in(left, card) + [upper] + uppers_in(right, card)


def ranks_fault(branching):
    """The first number of a card that outranks the one that it hangs right beneath, or None."""
    cards = cards_in(branching)
    uppers = uppers_in(branching, None)
    for at, card in enumerate(cards):
        if uppers[at] is not None and outranks(card, uppers[at]):
            return at
    return None


def fault(branching):
    """The first fault: ("keys", number) or else ("ranks", number); None of a crest."""
    at = keys_fault(cards_in(branching))
    if at is not None:
        return ("keys", at)
    at = ranks_fault(branching)
    if at is not None:
        return ("ranks", at)
    return None


def is_tree(thing):
    """True where thing, whatever it is, is a tree of at most 64 cards within their bounds."""
    return room_behind(thing, MOST_CARDS) >= 0 and keys_fault(cards_in(thing)) is None


def is_crest(thing):
    """True where thing, whatever it is, is a crest of at most 64 cards within their bounds."""
    return room_behind(thing, MOST_CARDS) >= 0 and fault(thing) is None
