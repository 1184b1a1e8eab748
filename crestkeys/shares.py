"""Shares of all orders of n cards, told by their places: who stands above whom, parts, seams and depths."""

from crestkeys.histories import states_of
from crestkeys.reckoning import lowest, total_of


def above_share(n, i, some):
    """The share by which the card i stands above all of some others."""
    places = [i] + list(some)
    return (1, max(places) - min(places) + 1)


def part_share(n, low, high):
    """The share by which the cards low to high are just those of a part."""
    many = high - low + 1
    if many == n:
        return (1, 1)
    if low == 0 or high == n - 1:
        return (1, many + 1)
    return lowest(2, (many + 1) * (many + 2))


def size_share(n, i, many):
    """The share by which the part of the card i has so many cards."""
    first = max(0, i - many + 1)
    last = min(i, n - many)
    top, bottom = total_of([part_share(n, low, low + many - 1) for low in range(first, last + 1)])
    return lowest(top, bottom * many)


def part_sizes(n, i):
    """For 1 to n cards the share by which the part of the card i has so many."""
    return [size_share(n, i, many) for many in range(1, n + 1)]


def seam_share(n, i, j):
    """The share by which the card j is on the seam of the card i."""
    far = abs(i - j)
    # No card is on its own seam.
    if far == 0:
        return (0, 1)
    return (1, far * (far + 1))


def mean_depth(n, i):
    """How many others stand above the card i in the mean."""
    return total_of([(1, abs(i - j) + 1) for j in range(n) if j != i])


def mean_seam(n, i):
    """How long the seam of the card i is in the mean."""
    return total_of([(2, 1), (-1, i + 1), (-1, n - i)])


def mean_turns(history):
    """How many turns the puts and takes of the history need in the mean; NoHistory."""
    behind = states_of(history, "kept")
    ahead = [()] + behind
    means = []
    for at, deed in enumerate(history):
        if deed[0] != "look":
            state = behind[at] if deed[0] == "put" else ahead[at]
            keys = [key for key, item in state]
            means.append(mean_seam(len(keys), keys.index(deed[1])))
    return total_of(means)
