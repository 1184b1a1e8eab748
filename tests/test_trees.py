import unittest

from crestkeys.trees import cards_in, fault, is_crest, is_tree
from tests.making import (GREATEST, any_tree, better, chain_left, chain_right, crest_by_leafing, dice, flat,
                          nodes, plain, sample_trees, seems_crest, some_cards, with_worths, zigzag)


def leaf(key, rank=0, worth=0):
    return ((), (key, rank, worth), ())


def fault_by_words(branching):
    rows = nodes(branching)
    cards = [row[1] for row in rows]
    keys = [k for k in range(1, len(cards)) if not cards[k][0] > cards[k - 1][0]]
    if keys:
        return ("keys", min(keys))
    ranks = [k for k, row in enumerate(rows) if row[3] and better(row[1], row[3])]
    return ("ranks", min(ranks)) if ranks else None


def any_branching(rng, many, most=9):
    if many == 0:
        return ()
    left = rng.randrange(many)
    card = (rng.randint(0, most), rng.randint(0, most), 0)
    return (any_branching(rng, left, most), card, any_branching(rng, many - 1 - left, most))


class Whatever(unittest.TestCase):
    def both(self, thing, tree, crest):
        self.assertIs(is_tree(thing), tree)
        self.assertIs(is_crest(thing), crest)

    def test_small_ones(self):
        self.both((), True, True)
        self.both(leaf(0), True, True)
        self.both(leaf(GREATEST, GREATEST, -GREATEST), True, True)
        self.both((leaf(1, 1), (2, 2, 0), leaf(3, 2)), True, True)

    def test_trees_that_are_no_crests(self):
        self.both((leaf(1, 3), (2, 2, 0), ()), True, False)
        self.both(((), (2, 2, 0), leaf(3, 3)), True, False)

    def test_like_ranks(self):
        self.both((leaf(1, 2), (2, 2, 0), ()), True, False)
        self.both(((), (2, 2, 0), leaf(3, 2)), True, True)

    def test_keys_that_do_not_rise(self):
        for low, high in ((2, 2), (3, 2)):
            self.both((leaf(low), (high, 9, 0), ()), False, False)
            self.both(((), (low, 9, 0), leaf(high)), False, False)
        deep = ((leaf(1), (2, 5, 0), leaf(8)), (5, 9, 0), leaf(9))
        self.both(deep, False, False)

    def test_parts_of_cards_beyond_their_bounds(self):
        for card in ((-1, 0, 0), (GREATEST + 1, 0, 0), (5, -1, 0), (5, GREATEST + 1, 0),
                     (5, 0, GREATEST + 1), (5, 0, -GREATEST - 1)):
            self.both(((), card, ()), False, False)
            self.both((leaf(4), (6, 9, 0), ((), card, ())), False, False)

    def test_cards_that_are_none(self):
        for card in (None, True, False, 5, "abc", "", (), [], (5, 5), (5, 5, 5, 5), [5, 5, 5],
                     (True, 5, 5), (5, False, 5), (5, 5, None), (5, 5, "5"), ((), 5, ()), leaf(5)):
            self.both(((), card, ()), False, False)
            self.both((leaf(1), (2, 9, 0), ((), card, ())), False, False)

    def test_sides_that_are_none(self):
        for side in (None, True, False, 0, 5, "", "abc", [], [()], ((),), [(), (1, 0, 0), ()],
                     (1, 0, 0), ((), ()), ((), (1, 0, 0)), ((), (1, 0, 0), (), ())):
            self.both((side, (5, 9, 0), ()), False, False)
            self.both(((), (0, 9, 0), side), False, False)
            self.both((leaf(0), (3, 9, 0), (side, (5, 8, 0), ())), False, False)

    def test_things_of_other_forms(self):
        for thing in (None, True, False, 0, 5, "", "()", [], [[]], ((),), ((), ()), ((), (5, 5, 5)),
                      ((), (5, 5, 5), (), ()), [(), (5, 5, 5), ()], (5, 5, 5), ((), (), ())):
            self.both(thing, False, False)

    def test_lists_in_a_tuples_place_and_tuples_in_a_lists(self):
        self.both(([], (5, 5, 5), []), False, False)
        self.both(((), (5, 5, 5), []), False, False)
        self.both(((), [5, 5, 5], ()), False, False)

    def test_64_and_65_cards(self):
        for many, so in ((63, True), (64, True), (65, False), (66, False), (130, False)):
            rng = dice(many)
            cards = plain(many)
            self.both(chain_right(cards), so, so)
            self.both(chain_left([(key, key, 0) for key in range(many)]), so, so)
            self.both(chain_left(cards), so, False)
            self.both(zigzag(cards), so, False)
            self.both(any_tree(rng, cards), so, False)
            self.both(crest_by_leafing(some_cards(rng, many)), so, so)

    def test_deep_things(self):
        for many in (64, 65, 150):
            for thing in (tuple, list):
                deep = thing()
                for _ in range(many - 1):
                    deep = thing([deep])
                for whole in (deep, (deep, (5, 5, 5), ()), ((), (5, 5, 5), deep), ((), deep, ())):
                    self.both(whole, False, False)
        for put in (lambda deep: (deep, (5, 5, 5), ()), lambda deep: ((), (5, 5, 5), deep),
                    lambda deep: [deep, (5, 5, 5), ()], lambda deep: ((), deep, ())):
            deep = ()
            for _ in range(148):
                deep = put(deep)
            self.both(deep, False, False)

    def test_a_thing_with_far_too_many_cards_is_left_soon(self):
        # Each level has the one beneath it on both sides: 2 ** 149 - 1 cards.
        deep = ()
        for _ in range(149):
            deep = (deep, (5, 5, 5), deep)
        self.both(deep, False, False)

    def test_all_samples(self):
        for tree in sample_trees():
            self.both(tree, True, seems_crest(tree))

    def test_any_branchings(self):
        rng = dice(9)
        for _ in range(400):
            branching = any_branching(rng, rng.randint(0, 4))
            keys = [card[0] for card in flat(branching)]
            self.both(branching, keys == sorted(set(keys)), seems_crest(branching))

    def test_worths_beyond_bounds(self):
        for worth in (GREATEST + 1, -2 * GREATEST, 10 ** 40):
            self.both(with_worths(crest_by_leafing(plain(5)), worth), False, False)


class Fault(unittest.TestCase):
    def test_none(self):
        self.assertIsNone(fault(()))
        self.assertIsNone(fault(leaf(5)))
        self.assertIsNone(fault((leaf(1, 1), (2, 2, 0), leaf(3, 2))))

    def test_keys(self):
        self.assertEqual(fault((leaf(2), (2, 9, 0), ())), ("keys", 1))
        self.assertEqual(fault((leaf(1), (2, 9, 0), leaf(1))), ("keys", 2))
        self.assertEqual(fault((leaf(3), (2, 9, 0), leaf(1))), ("keys", 1))
        self.assertEqual(fault(((), (2, 9, 0), (leaf(7), (6, 1, 0), leaf(5)))), ("keys", 2))

    def test_ranks(self):
        self.assertEqual(fault((leaf(1, 3), (2, 2, 0), leaf(3, 3))), ("ranks", 0))
        self.assertEqual(fault((leaf(1, 1), (2, 2, 0), leaf(3, 3))), ("ranks", 2))
        self.assertEqual(fault((((), (1, 1, 0), leaf(2, 5)), (3, 9, 0), ())), ("ranks", 1))
        self.assertEqual(fault((leaf(1, 2), (2, 2, 0), ())), ("ranks", 0))

    def test_only_the_one_right_above_counts(self):
        # The card 0 outranks the top, but not the one that it hangs right beneath.
        tree = ((leaf(0, 5), (1, 6, 0), ()), (2, 3, 0), ())
        self.assertEqual(fault(tree), ("ranks", 1))

    def test_keys_go_ahead_of_ranks(self):
        self.assertEqual(fault((leaf(1, 9), (2, 2, 0), leaf(2, 0))), ("keys", 2))

    def test_by_the_words_on_any_branchings(self):
        rng = dice(10)
        for _ in range(1500):
            branching = any_branching(rng, rng.randint(0, 6), rng.choice([3, 9, 40]))
            self.assertEqual(fault(branching), fault_by_words(branching), branching)
            told = fault(branching)
            self.assertTrue(told is None or isinstance(told, tuple))
        for tree in sample_trees():
            self.assertEqual(fault(tree), fault_by_words(tree))

    def test_worths_beyond_bounds(self):
        rng = dice(11)
        for _ in range(200):
            branching = any_branching(rng, rng.randint(0, 5), 9)
            beyond = with_worths(branching, 10 ** 40)
            self.assertEqual(fault(beyond), fault_by_words(branching))
            self.assertEqual(cards_in(beyond), flat(beyond))

    def test_just_crests_have_no_fault(self):
        for tree in sample_trees(12):
            self.assertIs(fault(tree) is None, is_crest(tree))


class CardsIn(unittest.TestCase):
    def test_from_the_left(self):
        self.assertEqual(cards_in(()), [])
        self.assertEqual(cards_in((leaf(3), (2, 9, 0), leaf(1))), [(3, 0, 0), (2, 9, 0), (1, 0, 0)])

    def test_samples(self):
        for tree in sample_trees(13):
            told = cards_in(tree)
            self.assertIsInstance(told, list)
            self.assertEqual(told, flat(tree))

    def test_the_list_is_the_askers_own(self):
        for tree in ((), chain_left(plain(4))):
            told = cards_in(tree)
            told.append(None)
            self.assertEqual(cards_in(tree), flat(tree))


if __name__ == "__main__":
    unittest.main()
