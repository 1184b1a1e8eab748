import unittest

from crestkeys.sums import sums_fault, sums_of
from tests.making import (chain_left, chain_right, crest_by_leafing, dice, flat, frozen, nodes, plain, sample_trees,
                          with_worths, zigzag)


def stretches(worths):
    """The sums of neighbours that begin with the first, that end with the last, and of all; none: 0."""
    many = len(worths)
    return ([sum(worths[:end]) for end in range(many + 1)],
            [sum(worths[begin:]) for begin in range(many + 1)],
            [sum(worths[begin:end]) for begin in range(many + 1) for end in range(begin, many + 1)])


def plain_sums(tree):
    """The sums by going through all cards of each part."""
    told = {}
    for left, card, right, _ in nodes(tree):
        worths = [one[2] for one in flat((left, card, right))]
        told[card[0]] = (len(worths), sum(worths)) + tuple(max(row) for row in stretches(worths))
    return told


def plain_due(node, sums):
    left, card, right, _ = node
    one = sums[left[1][0]] if left else (0, 0, 0, 0, 0)
    other = sums[right[1][0]] if right else (0, 0, 0, 0, 0)
    worth = card[2]
    return (1 + one[0] + other[0], worth + one[1] + other[1],
            max([one[2], one[1] + worth + other[2]]),
            max([other[3], other[1] + worth + one[3]]),
            max([one[4], other[4], one[3] + worth + other[2]]))


def plain_fault(tree, sums):
    keys = [card[0] for card in flat(tree)]
    lacking = [key for key in keys if key not in sums]
    if lacking:
        return ("lacks", min(lacking))
    wrong = [node[1][0] for node in nodes(tree) if sums[node[1][0]] != plain_due(node, sums)]
    if wrong:
        return ("wrong", min(wrong))
    spare = set(sums) - set(keys)
    return ("spare", min(spare)) if spare else None


TREE = ((((), (1, 0, 4), ()), (2, 0, -9), ((), (3, 0, 5), ())), (4, 0, -1), ((), (6, 0, 8), ((), (8, 0, -2), ())))


class SumsOf(unittest.TestCase):
    def test_told(self):
        self.assertEqual(sums_of(()), {})
        self.assertEqual(sums_of(((), (5, 1, 7), ())), {5: (1, 7, 7, 7, 7)})
        self.assertEqual(sums_of(((), (5, 1, 0), ())), {5: (1, 0, 0, 0, 0)})
        self.assertEqual(sums_of(((), (5, 1, -7), ())), {5: (1, -7, 0, 0, 0)})
        self.assertEqual(sums_of(TREE), {
            1: (1, 4, 4, 4, 4), 2: (3, 0, 4, 5, 5), 3: (1, 5, 5, 5, 5), 4: (6, 5, 7, 10, 12),
            6: (2, 6, 8, 6, 8), 8: (1, -2, 0, 0, 0)})

    def test_samples(self):
        wide = [with_worths(TREE, 10 ** 40), with_worths(TREE, -(10 ** 40))]
        for tree in sample_trees(62, 25) + wide:
            kept = frozen(tree)
            told = sums_of(tree)
            self.assertIs(type(told), dict)
            self.assertEqual(told, plain_sums(tree))
            self.assertTrue(all(type(entry) is tuple for entry in told.values()))
            self.assertIsNone(sums_fault(tree, told))
            self.assertEqual(frozen(tree), kept)

    def test_all_worths_of_one_sign(self):
        for many in (1, 2, 63, 64):
            for sign in (1, -1, 0):
                cards = [(key, 1, sign * (key + 1)) for key in range(many)]
                for tree in (chain_left(cards), chain_right(cards), zigzag(cards)):
                    self.assertEqual(sums_of(tree), plain_sums(tree))

    def test_the_dict_is_the_askers_own(self):
        told = sums_of(TREE)
        told[1] = None
        del told[2]
        told[99] = (0, 0, 0, 0, 0)
        self.assertEqual(sums_of(TREE), plain_sums(TREE))
        told = sums_of(())
        told[1] = None
        self.assertEqual(sums_of(()), {})


class SumsFault(unittest.TestCase):
    def held(self, tree, sums, due):
        kept = list(sums.items())
        told = sums_fault(tree, sums)
        self.assertEqual(told, due)
        self.assertEqual(sums_fault(tree, sums), told)
        self.assertEqual(list(sums.items()), kept)
        if told is not None:
            self.assertIs(type(told), tuple)

    def test_lacks(self):
        for key in (1, 2, 3, 4, 6, 8):
            sums = plain_sums(TREE)
            del sums[key]
            self.held(TREE, sums, ("lacks", key))
        self.held(TREE, {}, ("lacks", 1))
        sums = plain_sums(TREE)
        del sums[8], sums[3]
        self.held(TREE, sums, ("lacks", 3))

    def test_wrong_in_each_of_the_five_places(self):
        for key in (1, 2, 3, 4, 6, 8):
            for place in range(5):
                for more in (1, -1, 10 ** 30):
                    sums = plain_sums(TREE)
                    entry = list(sums[key])
                    entry[place] += more
                    sums[key] = tuple(entry)
                    self.held(TREE, sums, plain_fault(TREE, sums))
                    self.assertEqual(plain_fault(TREE, sums)[0], "wrong")

    def test_wrong_is_held_against_the_dicts_own_entries(self):
        # All above the wrong one is made of it, so it alone is wrong.
        sums = plain_sums(TREE)
        sums[8] = (5, 5, 5, 5, 5)
        for key in (6, 4):
            node = [node for node in nodes(TREE) if node[1][0] == key][0]
            sums[key] = plain_due(node, sums)
        self.held(TREE, sums, ("wrong", 8))
        # Here the one above is wrong, and it has the lesser key.
        sums = plain_sums(TREE)
        sums[8] = (5, 5, 5, 5, 5)
        self.held(TREE, sums, ("wrong", 6))

    def test_spare(self):
        for key in (-5, 0, 5, 7, 9, 10 ** 59, -(10 ** 59)):
            sums = plain_sums(TREE)
            sums[key] = (0, 0, 0, 0, 0)
            self.held(TREE, sums, ("spare", key))
            self.held((), {key: (0, 0, 0, 0, 0)}, ("spare", key))
        sums = {9: (0,) * 5, 7: (0,) * 5, **plain_sums(TREE), 5: (0,) * 5, 11: (0,) * 5}
        self.held(TREE, sums, ("spare", 5))

    def test_which_goes_first(self):
        sums = plain_sums(TREE)
        sums[0] = sums[1] = (0, 0, 0, 0, 0)
        self.held(TREE, sums, ("wrong", 1))
        del sums[8]
        self.held(TREE, sums, ("lacks", 8))
        self.held((), {}, None)

    def test_samples(self):
        rng = dice(63)
        for tree in sample_trees(64, 30):
            for _ in range(6):
                sums = plain_sums(tree)
                for _ in range(rng.choice([0, 1, 1, 2, 3])):
                    spoil(rng, sums)
                self.held(tree, sums, plain_fault(tree, sums))

    def test_worths_beyond_bounds(self):
        tree = with_worths(crest_by_leafing(plain(9)), 10 ** 40)
        sums = plain_sums(tree)
        self.held(tree, sums, None)
        sums[3] = (sums[3][0], sums[3][1] + 1) + sums[3][2:]
        self.held(tree, sums, plain_fault(tree, sums))
        self.assertIsNotNone(sums_fault(crest_by_leafing(plain(9)), plain_sums(tree)))


def spoil(rng, sums):
    key = rng.choice(sorted(sums) + [rng.randint(-5, 200)])
    kind = rng.choice(["lack", "wrong", "wrong", "spare"])
    if kind == "lack":
        sums.pop(key, None)
    elif kind == "wrong" and key in sums:
        place = rng.randrange(5)
        entry = list(sums[key])
        entry[place] += rng.choice([-2, -1, 1, 2])
        sums[key] = tuple(entry)
    else:
        sums[rng.randint(-5, 200)] = (1, 2, 3, 4, 5)


if __name__ == "__main__":
    unittest.main()
