"""Amounts that are reached, the richest stretch, and the tiles of a stretch of keys."""

from crestkeys.sums import entry_of, sums_of
from crestkeys.trees import cards_in


def reached(tree, amount):
    """The least number of cards, from the left, whose worths come to the amount, or None."""
    if amount <= 0:
        return 0
    total = 0
    for at, card in enumerate(cards_in(tree)):
        total += card[2]
        if total >= amount:
            return at + 1
    return None


def reach_road(tree, amount):
    """The road to the card with which an amount above 0 is reached; None where it is not."""
    if amount <= 0 or reached(tree, amount) is None:
        return None
    sums = sums_of(tree)
    steps = []
    part = tree
    wanted = amount
    word = ""
    while word != "here":
        left, card, right = part
        many, total, ahead, behind, within = entry_of(left, sums)
        if ahead >= wanted:
            word = "left"
            part = left
        elif total + card[2] >= wanted:
            word = "here"
        else:
            word = "right"
            part = right
            wanted -= total + card[2]
        steps.append((card[0], word))
    return steps


def richest(tree):
    """(sum, low, high) of the neighbours with the greatest sum, the least low first; None of ()."""
    cards = cards_in(tree)
    best = None
    for first in range(len(cards)):
        total = 0
        for last in range(first, len(cards)):
            total += cards[last][2]
            # Only a greater sum goes ahead, so of several the first one stays.
            if best is None or total > best[0]:
                best = (total, cards[first][0], cards[last][0])
    return best


def tiles(tree, low, high):
    """The greatest parts within low and high, and the other cards within them, from the left."""
    if tree == ():
        return []
    left, card, right = tree
    cards = cards_in(tree)
    if low <= cards[0][0] and cards[-1][0] <= high:
        return [("part", card[0])]
    own = [("card", card[0])] if low <= card[0] <= high else []
    return tiles(left, low, high) + own + tiles(right, low, high)
