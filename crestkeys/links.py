"""Links of a tree, and what a split does to them."""

from crestkeys.splits import split


def links_of_part(part):
    """The links of a part: from its top, then those in its left and in its right part."""
    if part == ():
        return []
    left, card, right = part
    own = [(card[0], side[1][0]) for side in (left, right) if side != ()]
    return own + links_of_part(left) + links_of_part(right)


def links(tree):
    """The rising list of pairs of a card's key and that of one right beneath it."""
    return sorted(links_of_part(tree))


def split_road(crest, key):
    """For each card on the road of the split its key and where it comes, "less" or "rest"."""
    met = []
    part = crest
    while part != ():
        left, card, right = part
        if card[0] < key:
            met.append((card[0], "less"))
            part = right
        else:
            met.append((card[0], "rest"))
            part = left
    return met


def split_links(crest, key):
    """The links that go by the split, and those that come; both lists rise."""
    less, rest = split(crest, key)
    old = links(crest)
    new = sorted(links(less) + links(rest))
    going = [link for link in old if link not in new]
    coming = [link for link in new if link not in old]
    return (going, coming)
