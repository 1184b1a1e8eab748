"""Cards: tuples (key, rank, worth), and which one outranks which."""

GREATEST = 10 ** 18


def is_whole(thing):
    """True where thing is a whole number; a truth is none, though Python counts it as an int."""
    return isinstance(thing, int) and not isinstance(thing, bool)


def is_from(thing, least):
    """True where thing is a whole number from least to the greatest that a card may have."""
    return is_whole(thing) and least <= thing <= GREATEST


def is_card(thing):
    """True where thing, whatever it is, is a card within its bounds."""
    if not isinstance(thing, tuple) or len(thing) != 3:
        return False
    key, rank, worth = thing
    return is_from(key, 0) and is_from(rank, 0) and is_from(worth, -GREATEST)


def outranks(one, other):
    """True where the one has the greater rank or, of like ranks, the lesser key."""
    if one[1] != other[1]:
        return one[1] > other[1]
    return one[0] < other[0]
