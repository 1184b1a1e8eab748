"""Rows of turns to the chain and between two trees, and how few turns there can be."""

from crestkeys.crests import part_at
from crestkeys.errors import NoKey, NoTurn, OtherCards
from crestkeys.seams import edges, seam
from crestkeys.trees import cards_in
from crestkeys.turns import turned_by


def steps_to_chain(tree):
    """Of each turn to the chain the pair of its key and the key of the card whose place it takes."""
    steps = []
    part = tree
    while part != ():
        left, card, right = part
        if left == ():
            part = right
        else:
            steps.append((left[1][0], card[0]))
            part = (left[0], left[1], (left[2], card, right))
    return steps


def to_chain(tree):
    """A row of turns, as short as can be, that leads to the chain of the tree's cards."""
    return [key for key, under in steps_to_chain(tree)]


def turns_between(one, other):
    """A row of turns from the one to the other tree by way of the chain; OtherCards."""
    check_cards(one, other)
    # A turn is undone by one at the card whose place was taken.
    back = [under for key, under in steps_to_chain(other)]
    return to_chain(one) + back[::-1]


def check_cards(one, other):
    """Refuses two trees that have not the same cards."""
    if cards_in(one) != cards_in(other):
        raise OtherCards()


def seam_length(tree, key):
    """How many cards both rows of the key's seam have together."""
    left, right = seam(tree, key)
    return len(left) + len(right)


def unlike_parts(one, other):
    """How many cards have unlike keys in the parts of which they are the tops."""
    many = 0
    for card in cards_in(one):
        # The same cards have the same keys, so the cards may stand for them.
        if cards_in(part_at(one, card[0])) != cards_in(part_at(other, card[0])):
            many += 1
    return many


def turns_bound(one, other):
    """A number of turns that no row from the one to the other tree goes below; OtherCards."""
    check_cards(one, other)
    bounds = [(unlike_parts(one, other) + 1) // 2]
    for edge, beside in zip(edges(one), edges(other)):
        bounds.append(abs(len(edge) - len(beside)))
    for card in cards_in(one):
        bounds.append(abs(seam_length(one, card[0]) - seam_length(other, card[0])))
    return max(bounds)


def leads(one, row, other):
    """True where all turns of the row can be done and lead from the one tree to the other."""
    try:
        return turned_by(one, row) == other
    except (NoKey, NoTurn):
        return False
