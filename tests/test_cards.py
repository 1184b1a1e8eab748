import itertools
import unittest

from crestkeys.cards import is_card, outranks
from tests.making import GREATEST, dice, within_one_another


class IsCard(unittest.TestCase):
    def test_parts_at_their_bounds(self):
        for card in itertools.product((0, 1, GREATEST), (0, 1, GREATEST), (-GREATEST, -1, 0, 1, GREATEST)):
            self.assertIs(is_card(card), True, card)

    def test_parts_beyond_their_bounds(self):
        for bad in (-1, GREATEST + 1, -GREATEST, 10 ** 59):
            self.assertIs(is_card((bad, 5, 5)), False, bad)
            self.assertIs(is_card((5, bad, 5)), False, bad)
        for bad in (-GREATEST - 1, GREATEST + 1, 10 ** 59, -(10 ** 59)):
            self.assertIs(is_card((5, 5, bad)), False, bad)

    def test_parts_that_are_no_whole_numbers(self):
        for bad in (True, False, None, "", "5", (), (5,), [], [5]):
            for at in range(3):
                parts = [5, 5, 5]
                parts[at] = bad
                self.assertIs(is_card(tuple(parts)), False, parts)

    def test_too_few_and_too_many_parts(self):
        for many in (0, 1, 2, 4, 5, 200):
            self.assertIs(is_card((5,) * many), False, many)

    def test_things_that_are_no_tuples(self):
        for thing in ([5, 5, 5], [], 5, 0, True, False, None, "", "abc", [(5, 5, 5)], ((5, 5, 5),)):
            self.assertIs(is_card(thing), False, thing)

    def test_deep_things(self):
        for shut in (tuple, list):
            deep = within_one_another(149, shut)
            for thing in (deep, (deep, 5, 5), (5, deep, 5), (5, 5, deep), [5, 5, deep]):
                self.assertIs(is_card(thing), False)


class Outranks(unittest.TestCase):
    def test_greater_ranks(self):
        self.assertIs(outranks((5, 7, 0), (3, 6, 0)), True)
        self.assertIs(outranks((3, 6, 0), (5, 7, 0)), False)

    def test_like_ranks_go_to_the_lesser_key(self):
        self.assertIs(outranks((3, 7, 0), (5, 7, 9)), True)
        self.assertIs(outranks((5, 7, 9), (3, 7, 0)), False)

    def test_bounds(self):
        self.assertIs(outranks((0, GREATEST, 0), (GREATEST, GREATEST, 0)), True)
        self.assertIs(outranks((GREATEST, GREATEST, 0), (0, GREATEST - 1, 0)), True)
        self.assertIs(outranks((0, 0, 0), (GREATEST, 1, 0)), False)

    def test_worths_do_not_matter_even_beyond_their_bounds(self):
        self.assertIs(outranks((1, 5, 10 ** 40), (2, 4, -(10 ** 40))), True)
        self.assertIs(outranks((1, 5, -(10 ** 40)), (2, 5, 10 ** 40)), True)

    def test_none_outranks_itself(self):
        self.assertIs(outranks((1, 5, 0), (1, 5, 0)), False)

    def test_just_one_of_two_outranks_the_other(self):
        rng = dice(3)
        for _ in range(300):
            one, other = [(key, rng.randint(0, 3), 0) for key in rng.sample(range(9), 2)]
            self.assertIs(outranks(one, other), not outranks(other, one))
            by_words = one[1] > other[1] or (one[1] == other[1] and one[0] < other[0])
            self.assertIs(outranks(one, other), by_words)


if __name__ == "__main__":
    unittest.main()
