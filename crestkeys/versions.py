"""Two versions of a store: of which both come, the steps between them, how they differ, and merged."""

from crestkeys.errors import Clash
from crestkeys.trees import parts_in


def line_of(store, version):
    """A list of all versions of which the version comes, itself first; NoNumber."""
    line = []
    while version is not None:
        line.append(version)
        version = store.forebear(version)
    return line


def both_come_of(store, one, other):
    """The greatest version of which both come; NoNumber."""
    ones = line_of(store, one)
    others = line_of(store, other)
    return max([version for version in ones if version in others])


def steps(store, one, other):
    """The fewest steps, back and by deeds, from the one version to the other; NoNumber."""
    common = both_come_of(store, one, other)
    back = line_of(store, one).index(common)
    line = line_of(store, other)
    ahead = line[:line.index(common)][::-1]
    return [("back",)] * back + [store.deed(version) for version in ahead]


def by_key(store, version):
    """The version's cards by their keys; NoNumber."""
    return {card[0]: card for card in store.cards(version)}


def differing(store, one, other):
    """The rising list of (key, card or None, card or None) where the two versions differ; NoNumber."""
    ones = by_key(store, one)
    others = by_key(store, other)
    keys = sorted({**ones, **others})
    return [(key, ones.get(key), others.get(key)) for key in keys if ones.get(key) != others.get(key)]


def merged(store, one, other):
    """The cards of both, by rising keys, each as changed since the version of which both come; NoNumber, Clash."""
    before = by_key(store, both_come_of(store, one, other))
    ones = by_key(store, one)
    others = by_key(store, other)
    cards = []
    for key in sorted({**before, **ones, **others}):
        card = ones.get(key)
        beside = others.get(key)
        if card == before.get(key):
            card = beside
        elif beside != before.get(key) and beside != card:
            raise Clash(key)
        if card is not None:
            cards.append(card)
    return cards


def new_in(store, one, other):
    """The rising list of the keys whose parts in the one version's tree are no parts of the other's; NoNumber."""
    parts = parts_in(store.tree(one))
    # Two parts can be alike only where their tops have one key.
    others = {part[1][0]: part for part in parts_in(store.tree(other))}
    return [part[1][0] for part in parts if others.get(part[1][0]) != part]
