import unittest

from crestkeys.errors import TooMany
from crestkeys.sets import differ, shared, together, without
from tests.making import (all_trees, by_key, crest_by_leafing, dice, flat, frozen, pairs_of_crests, plain,
                          sample_trees, seems_crest, with_worths)


class PutTogether(unittest.TestCase):
    one = crest_by_leafing([(2, 5, 7), (4, 9, -3)])
    other = crest_by_leafing([(4, 1, 0), (6, 6, 6)])

    def test_told(self):
        self.assertEqual(together(self.one, self.other), crest_by_leafing([(2, 5, 7), (4, 9, -3), (6, 6, 6)]))
        self.assertEqual(together(self.other, self.one), crest_by_leafing([(2, 5, 7), (4, 1, 0), (6, 6, 6)]))
        self.assertEqual(shared(self.one, self.other), ((), (4, 9, -3), ()))
        self.assertEqual(shared(self.other, self.one), ((), (4, 1, 0), ()))
        self.assertEqual(without(self.one, self.other), ((), (2, 5, 7), ()))
        self.assertEqual(without(self.other, self.one), ((), (6, 6, 6), ()))

    def test_without_cards(self):
        for ask, due in ((together, (self.one, self.one, ())), (shared, ((), (), ())), (without, (self.one, (), ()))):
            self.assertEqual((ask(self.one, ()), ask((), self.one), ask((), ())), due)

    def test_samples(self):
        for one, other in pairs_of_crests(76):
            kept = frozen([one, other])
            ones, others = by_key(one), by_key(other)
            crest = crest_by_leafing({**others, **ones}.values())
            self.assertEqual(together(one, other), crest)
            self.assertTrue(seems_crest(crest))
            self.assertEqual(shared(one, other), crest_by_leafing([ones[key] for key in ones if key in others]))
            self.assertEqual(without(one, other), crest_by_leafing([ones[key] for key in ones if key not in others]))
            self.assertEqual(together(shared(one, other), without(one, other)), one)
            self.assertEqual(frozen([one, other]), kept)

    def test_too_many(self):
        def of_keys(first, last):
            return crest_by_leafing([(key, key * 7 % 11, 0) for key in range(first, last)])
        for one, other in (((0, 32), (32, 64)), ((0, 64), (0, 64)), ((0, 64), (10, 20)), ((10, 20), (0, 64)),
                           ((0, 64), (0, 0)), ((0, 0), (0, 64)), ((0, 40), (24, 64))):
            one, other = of_keys(*one), of_keys(*other)
            self.assertEqual(together(one, other), of_keys(0, 64))
        for one, other in (((0, 32), (32, 65)), ((0, 64), (64, 65)), ((0, 64), (1, 65)), ((1, 65), (0, 64)),
                           ((0, 64), (64, 128)), ((64, 65), (0, 64))):
            one, other = of_keys(*one), of_keys(*other)
            kept = frozen([one, other])
            with self.assertRaises(TooMany) as caught:
                together(one, other)
            self.assertEqual(caught.exception.most, 64)
            self.assertEqual(frozen([one, other]), kept)
            shared(one, other)
            without(one, other)
            differ(one, other)


class Differ(unittest.TestCase):
    def test_told(self):
        one = crest_by_leafing([(2, 5, 7), (4, 9, -3), (6, 1, 1), (8, 2, 2)])
        other = crest_by_leafing([(3, 5, 7), (4, 8, -3), (6, 1, 2), (8, 2, 2)])
        self.assertEqual(differ(one, other), [2, 3, 4, 6])
        self.assertEqual(differ(other, one), [2, 3, 4, 6])
        self.assertEqual(differ(one, one), [])
        self.assertEqual(differ(one, ()), [2, 4, 6, 8])
        self.assertEqual(differ((), one), [2, 4, 6, 8])
        self.assertEqual(differ((), ()), [])

    def test_trees_of_the_same_cards(self):
        for one in all_trees(plain(4)):
            for other in all_trees(plain(4)):
                self.assertEqual(differ(one, other), [])

    def test_samples(self):
        rng = dice(77)
        trees = [tree for tree in sample_trees(78, 20) if len(flat(tree)) < 40]
        trees += [with_worths(tree, 10 ** 40) for tree in trees[:6]]
        for _ in range(300):
            one, other = rng.choice(trees), rng.choice(trees)
            kept = frozen([one, other])
            told = differ(one, other)
            ones, others = by_key(one), by_key(other)
            due = [key for key in sorted(set(ones) | set(others))
                   if key not in ones or key not in others or ones[key] != others[key]]
            self.assertEqual(told, due)
            self.assertIs(type(told), list)
            told.append(None)
            self.assertEqual(differ(one, other), due)
            self.assertEqual(frozen([one, other]), kept)


if __name__ == "__main__":
    unittest.main()
