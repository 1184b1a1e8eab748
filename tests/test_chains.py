import unittest

from crestkeys.chains import leads, to_chain, turns_between, turns_bound
from crestkeys.errors import OtherCards
from crestkeys.turns import turned_by
from tests.making import (GREATEST, all_trees, all_turns, any_tree, chain_left, chain_right, dice, fewest_turns, flat,
                          frozen, lengths, nodes, plain, right_edge, sample_trees, some_cards, turns_of_chance, with_worths,
                          zigzag)


def off_edge(tree):
    return len(flat(tree)) - len(right_edge(tree))


def bound_by_words(one, other):
    ones, others = lengths(one), lengths(other)
    parts = [{row[1][0]: [card[0] for card in flat(row[:3])] for row in nodes(tree)} for tree in (one, other)]
    unlike = sum(parts[0][key] != parts[1][key] for key in parts[0])
    return max([abs(ones[name] - others[name]) for name in ones] + [-(-unlike // 2)])


def pairs_of_trees(seed):
    rng = dice(seed)
    for many in [0, 1, 2, 3, 5, 9, 20, 63, 64] * 4:
        cards = some_cards(rng, many)
        yield any_tree(rng, cards), any_tree(rng, cards)
    for many in (1, 2, 64):
        made = [chain_left(plain(many)), chain_right(plain(many)), zigzag(plain(many))]
        for one in made:
            for other in made:
                yield one, other


def changed_cards(tree):
    """Trees with one card of another key, rank or worth, and with one more and one fewer."""
    cards = flat(tree)
    key, rank, worth = cards[-1]
    for card in ((key + 1, rank, worth), (key, rank + 1, worth), (key, rank, worth + 1)):
        yield chain_right(cards[:-1] + [card])
    yield chain_right(cards[:-1])
    yield chain_right(cards + [(key + 1, rank, worth)])
    yield chain_right([(card[0] + 1, card[1], card[2]) for card in cards])
    yield ()


class ToChain(unittest.TestCase):
    def test_small_ones(self):
        self.assertEqual(to_chain(()), [])
        self.assertEqual(to_chain(((), (5, 0, 0), ())), [])
        self.assertEqual(to_chain(chain_left(plain(2))), [0])
        self.assertEqual(to_chain(chain_right(plain(64))), [])
        self.assertEqual(len(to_chain(chain_left(plain(64)))), 63)

    def test_samples(self):
        for tree in sample_trees(50):
            kept = frozen(tree)
            row = to_chain(tree)
            self.assertIsInstance(row, list)
            self.assertEqual(len(row), off_edge(tree))
            self.assertEqual(turned_by(tree, row), chain_right(flat(tree)))
            self.assertTrue(leads(tree, row, chain_right(flat(tree))))
            self.assertEqual(frozen(tree), kept)

    def test_no_fewer_turns_do(self):
        for many in range(7):
            far = fewest_turns(chain_right(plain(many)))
            for tree in all_trees(plain(many)):
                self.assertEqual(len(to_chain(tree)), far[tree])

    def test_the_row_is_the_askers_own(self):
        tree = chain_left(plain(5))
        told = to_chain(tree)
        kept = list(told)
        told.clear()
        self.assertEqual(to_chain(tree), kept)


class Between(unittest.TestCase):
    def test_samples(self):
        for one, other in pairs_of_trees(51):
            kept = frozen([one, other])
            row = turns_between(one, other)
            self.assertIsInstance(row, list)
            self.assertEqual(len(row), off_edge(one) + off_edge(other))
            self.assertEqual(turned_by(one, row), other)
            self.assertIs(leads(one, row, other), True)
            self.assertEqual(turns_between(one, other), row)
            self.assertEqual(frozen([one, other]), kept)

    def test_a_tree_with_itself(self):
        for tree in sample_trees(52, 20):
            row = turns_between(tree, tree)
            self.assertEqual(len(row), 2 * off_edge(tree))
            self.assertEqual(turned_by(tree, row), tree)

    def test_no_cards_and_one(self):
        one = ((), (5, 5, 5), ())
        self.assertEqual(turns_between((), ()), [])
        self.assertEqual(turns_between(one, one), [])
        self.assertEqual(turns_bound((), ()), 0)
        self.assertEqual(turns_bound(one, one), 0)

    def test_the_row_is_the_askers_own(self):
        one, other = chain_left(plain(5)), zigzag(plain(5))
        told = turns_between(one, other)
        kept = list(told)
        told.append(None)
        self.assertEqual(turns_between(one, other), kept)

    def test_other_cards(self):
        for tree in (chain_left(plain(1)), zigzag(plain(5)), chain_right(plain(63)), any_tree(dice(53), plain(64))):
            for other in changed_cards(tree):
                for ask in (turns_between, turns_bound):
                    self.assertRaises(OtherCards, ask, tree, other)
                    self.assertRaises(OtherCards, ask, other, tree)

    def test_worths_beyond_bounds(self):
        one, other = [with_worths(tree, 10 ** 40) for tree in (chain_left(plain(6)), zigzag(plain(6)))]
        self.assertEqual(turned_by(one, turns_between(one, other)), other)
        self.assertEqual(turned_by(one, to_chain(one)), chain_right(flat(one)))
        self.assertEqual(turns_bound(one, other), bound_by_words(one, other))
        self.assertRaises(OtherCards, turns_bound, one, with_worths(one, 10 ** 41))


class Bound(unittest.TestCase):
    def test_samples(self):
        for one, other in pairs_of_trees(54):
            told = turns_bound(one, other)
            self.assertIs(type(told), int)
            self.assertEqual(told, bound_by_words(one, other))
            self.assertEqual(turns_bound(other, one), told)
            self.assertEqual(turns_bound(one, one), 0)

    def test_each_of_the_three_can_be_the_greatest(self):
        self.assertEqual(turns_bound(chain_left(plain(64)), chain_right(plain(64))), 63)
        seen = set()
        trees = all_trees(plain(6))
        for one in trees[::3]:
            for other in trees:
                ones, others = lengths(one), lengths(other)
                told = turns_bound(one, other)
                self.assertEqual(told, bound_by_words(one, other))
                far = {name: abs(ones[name] - others[name]) for name in ones}
                edge = max(far.pop("left"), far.pop("right"))
                seen.add((told > edge, told > max(far.values())))
        self.assertEqual(seen, {(False, False), (True, False), (False, True), (True, True)})

    def test_no_row_of_fewer_turns_leads_there(self):
        for many in range(6):
            for one in all_trees(plain(many)):
                far = fewest_turns(one)
                for other in far:
                    self.assertLessEqual(turns_bound(one, other), far[other])
                    self.assertGreaterEqual(len(turns_between(one, other)), far[other])


class Leads(unittest.TestCase):
    def test_told(self):
        one, other = chain_right(plain(3)), chain_left(plain(3))
        self.assertIs(leads(one, [1, 2], other), True)
        self.assertIs(leads(one, (1, 2), other), True)
        self.assertIs(leads(one, [1], other), False)
        self.assertIs(leads(one, [1, 2, 1], other), False)
        self.assertIs(leads(one, [1, 2, 1, 2], other), True)
        self.assertIs(leads(one, [], other), False)
        self.assertIs(leads(one, [], one), True)
        self.assertIs(leads(one, (), one), True)

    def test_rows_that_cannot_be_done(self):
        one, other = chain_right(plain(3)), chain_left(plain(3))
        for row in ([0], [1, 2, 2], [1, 2, 3], [9, 1, 2], [1, 1, 2], [1, -1, 2], [10 ** 59], [-(10 ** 59)]):
            self.assertIs(leads(one, row, other), False, row)
        self.assertIs(leads((), [0], ()), False)
        self.assertIs(leads(((), (5, 0, 0), ()), [5], ((), (5, 0, 0), ())), False)

    def test_no_cards_and_one(self):
        self.assertIs(leads((), [], ()), True)
        self.assertIs(leads((), [], ((), (5, 0, 0), ())), False)
        self.assertIs(leads(((), (5, 0, 0), ()), [], ()), False)

    def test_other_cards(self):
        tree = zigzag(plain(5))
        for other in changed_cards(tree):
            self.assertIs(leads(tree, [], other), False)
            self.assertIs(leads(tree, to_chain(tree), other), False)
            self.assertIs(leads(other, [], tree), False)

    def test_rows_of_chance(self):
        rng = dice(55)
        for many in (2, 3, 10, 64):
            for length in (1, 5, 800):
                first, row, tree = turns_of_chance(rng, many, length)
                kept = list(row)
                self.assertIs(leads(first, row, tree), True)
                self.assertIs(leads(first, tuple(row), tree), True)
                self.assertIs(leads(first, row[:-1], tree), False)
                self.assertIs(leads(first, row + [GREATEST + 1], tree), False)
                self.assertEqual(row, kept)

    def test_any_whole_numbers(self):
        rng = dice(56)
        told = []
        for _ in range(2000):
            one, other = [any_tree(rng, plain(3)) for _ in range(2)]
            row = [rng.randint(-1, 3) for _ in range(rng.randint(0, 4))]
            due = one
            for key in row:
                due = dict(all_turns(due)).get(key) if due is not None else None
            self.assertIs(leads(one, row, other), due == other)
            told.append(leads(one, row, other))
        self.assertEqual(set(told), {True, False})


if __name__ == "__main__":
    unittest.main()
