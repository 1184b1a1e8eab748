"""Two crests put together, letter by letter: runs, mixed cards, pure parts, and shares of all orders."""

from crestkeys.crests import holds
from crestkeys.reckoning import added, total_of
from crestkeys.sets import check_keys, keys_of_both, together
from crestkeys.trees import cards_in, parts_in


def letter_of(one, other, key):
    """Which of the two trees have the key: "a" the one alone, "b" the other alone, "c" both."""
    if not holds(other, key):
        return "a"
    return "c" if holds(one, key) else "b"


def letters(one, other):
    """For each key of either crest, rising, the pair of it and its letter; TooMany."""
    check_keys(one, other)
    return [(key, letter_of(one, other, key)) for key in keys_of_both(one, other)]


def runs(one, other):
    """(letter, low, high, many) of each longest row of neighbours of one letter; TooMany."""
    found = []
    for key, letter in letters(one, other):
        if len(found) > 0 and found[-1][0] == letter:
            found[-1] = (letter, found[-1][1], key, found[-1][3] + 1)
        else:
            found.append((letter, key, key, 1))
    return found


def is_pure(part, named):
    """True where the part has a mixed card neither as its top nor beneath it."""
    letter = named[part[1][0]]
    return letter != "c" and all([named[card[0]] == letter for card in cards_in(part)])


def mixed_in(one, other):
    """A rising list of the keys of the mixed cards; TooMany."""
    named = dict(letters(one, other))
    # A top that is not mixed has only its own letter beneath it, so its whole part is pure.
    return [part[1][0] for part in parts_in(together(one, other)) if not is_pure(part, named)]


def pure_within(part, named):
    """(letter, low, high, many) of each of the greatest parts without a mixed card, from the left."""
    if part == ():
        return []
    if is_pure(part, named):
        keys = [card[0] for card in cards_in(part)]
        return [(named[keys[0]], keys[0], keys[-1], len(keys))]
    return pure_within(part[0], named) + pure_within(part[2], named)


def pure_parts(one, other):
    """(letter, low, high, many) of each pure part, rising by low; TooMany."""
    return pure_within(together(one, other), dict(letters(one, other)))


def alike_ahead(row, k):
    """How many letters of the k-th one's run stand ahead of it."""
    many = 0
    while many < k and row[k - many - 1] == row[k]:
        many += 1
    return many


def mixed_share(row, k):
    """The share of all orders by which the k-th card of a row of letters is mixed."""
    if row[k] == "c":
        return (1, 1)
    behind = len(row) - 1 - k
    left = alike_ahead(row, k)
    right = alike_ahead(row[::-1], behind)
    share = (0, 1)
    if left < k:
        share = added(share, (1, left + 2))
    if right < behind:
        share = added(share, (1, right + 2))
    if left < k and right < behind:
        share = added(share, (-1, left + right + 3))
    return share


def mixed_mean(row):
    """The mean number of mixed cards of a row of letters, over all orders."""
    return total_of([mixed_share(row, k) for k in range(len(row))])
