import itertools
import unittest

from crestkeys.errors import NoNumber, OneRest, TooMany
from crestkeys.mixers import (deals, falling_many, is_mixer, mixer_at, mixer_number, mixers_many, rank_by,
                              topping_many)
from tests.making import GREATEST, better, dice, frozen, odd_things

SMALL = ((2, 1), (2, 2), (2, 3), (2, 5), (3, 1), (3, 2), (3, 3), (3, 4), (5, 1), (5, 2), (5, 3), (7, 2), (7, 3))


def all_mixers(prime, many):
    """All mixers with the prime and so many parts, as their parts rise."""
    return [(prime, parts) for parts in itertools.product(range(prime), repeat=many)]


def plain_rank(mixer, key):
    prime, parts = mixer
    return sum(part * key ** at for at, part in enumerate(parts)) % prime


def plain_deals(mixer, pairs):
    return all(plain_rank(mixer, key) == rank for key, rank in pairs)


def primes_below(most):
    return [number for number in range(2, most) if all(number % by for by in range(2, int(number ** 0.5) + 1))]


class IsMixer(unittest.TestCase):
    def test_primes_and_others(self):
        primes = set(primes_below(10000))
        self.assertEqual(max(primes), 9973)
        for number in range(-3, 10100):
            self.assertIs(is_mixer((number, (0,))), number in primes, number)

    def test_above_ten_thousand(self):
        for number in (10007, 10009, 10 ** 9 + 7, 2 ** 61 - 1, 10 ** 59, -7, -9973):
            self.assertIs(is_mixer((number, (0,))), False)

    def test_how_many_parts(self):
        for many in range(12):
            self.assertIs(is_mixer((7, (3,) * many)), 1 <= many <= 8, many)

    def test_parts_at_and_beyond_their_bounds(self):
        for prime in (2, 3, 7, 9973):
            for part, within in ((0, True), (prime - 1, True), (-1, False), (prime, False), (10 ** 59, False)):
                for at in range(3):
                    parts = [0, 1, 0]
                    parts[at] = part
                    self.assertIs(is_mixer((prime, tuple(parts))), within)

    def test_kinds(self):
        self.assertIs(is_mixer((7, (1, 2))), True)
        for thing in ([7, (1, 2)], (7, [1, 2]), (7, 1), (7,), (7, (1, 2), 3), (7, 1, 2), ((1, 2), 7), (7, ((1, 2),)),
                      (7, "12"), ("7", (1, 2)), (None, (1, 2)), (7, None), ((7,), (1, 2)), ([7], (1, 2)), (), [], "72",
                      (True, (0,)), (False, (0,)), *odd_things()):
            self.assertIs(is_mixer(thing), False, thing)
        for bad in (True, False, None, "", "1", (), (1,), [], [1]):
            for parts in ((bad,), (1, bad), (bad, 1)):
                self.assertIs(is_mixer((7, parts)), False, parts)


class Deals(unittest.TestCase):
    def test_told(self):
        self.assertEqual(rank_by((7, (3, 2, 5)), 4), (3 + 8 + 80) % 7)
        self.assertEqual(rank_by((7, (3,)), 10 ** 18), 3)
        self.assertEqual(rank_by((2, (1, 1)), 1), 0)
        self.assertIs(deals((7, (3, 2)), [(0, 3), (1, 5), (2, 0)]), True)
        self.assertIs(deals((7, (3, 2)), [(0, 3), (1, 5), (2, 7)]), False)
        self.assertIs(deals((7, (3, 2)), []), True)
        self.assertIs(deals((7, (3, 2)), ((0, 3), (7, 3), (7, 3))), True)

    def test_ranks(self):
        rng = dice(93)
        for prime in (2, 3, 101, 9973):
            for many in range(1, 9):
                mixer = (prime, tuple(rng.randrange(prime) for _ in range(many)))
                for key in (0, 1, 2, prime - 1, prime, prime + 1, GREATEST - 1, GREATEST, rng.randint(0, GREATEST)):
                    rank = rank_by(mixer, key)
                    self.assertEqual(rank, plain_rank(mixer, key))
                    self.assertIs(deals(mixer, [(key, rank)]), True)
                    for other in (rank + 1, rank - 1, rank + prime, rank - prime, -1, 10 ** 59):
                        self.assertIs(deals(mixer, [(key, other)]), False)
                        self.assertIs(deals(mixer, [(key, rank), (key, other)]), False)
                        self.assertIs(deals(mixer, [(key, other), (key, rank)]), False)


def some_pairs(rng, prime, many):
    """Pairs with keys of like and unlike rests, now and then with a rank beyond the prime."""
    mixer = (prime, tuple(rng.randrange(prime) for _ in range(many)))
    pairs = []
    for _ in range(rng.randint(0, 6)):
        key = rng.choice([rng.randrange(2 * prime + 2), GREATEST - rng.randrange(9)])
        lot = rng.random()
        rank = plain_rank(mixer, key) if lot < 0.8 else rng.randrange(prime) if lot < 0.95 else rng.randint(-2, prime + 1)
        pairs.append((key, rank))
    return pairs


class Numbered(unittest.TestCase):
    def held(self, prime, many, pairs):
        kept = frozen(pairs)
        right = [mixer for mixer in all_mixers(prime, many) if plain_deals(mixer, pairs)]
        self.assertEqual(mixers_many(prime, many, pairs), len(right))
        for number in sorted({0, 1, len(right) // 2, len(right) - 2, len(right) - 1}):
            if 0 <= number < len(right):
                mixer = mixer_at(prime, many, pairs, number)
                self.assertEqual(mixer, right[number])
                self.assertEqual([type(mixer), type(mixer[1])], [tuple, tuple])
                self.assertIs(is_mixer(mixer), True)
                self.assertEqual(mixer_number(mixer, pairs), number)
        for number in (-1, -len(right) - 1, len(right), len(right) + 1, 10 ** 59, -(10 ** 59)):
            with self.assertRaises(NoNumber) as caught:
                mixer_at(prime, many, pairs, number)
            self.assertEqual(caught.exception.number, number)
        self.assertEqual(frozen(pairs), kept)

    def test_samples(self):
        rng = dice(94)
        for prime, many in SMALL:
            for _ in range(25):
                pairs = some_pairs(rng, prime, many)
                self.held(prime, many, pairs)
                self.held(prime, many, tuple(pairs))

    def test_all_numbers(self):
        for prime, many, pairs in ((5, 3, []), (5, 3, [(2, 1)]), (5, 3, [(0, 1)]), (5, 3, [(10, 4), (3, 0)]), (2, 5, []),
                                   (2, 5, [(4, 1), (5, 0)]), (3, 4, [(0, 2), (1, 1)]), (7, 2, [(1, 6)])):
            right = [mixer for mixer in all_mixers(prime, many) if plain_deals(mixer, pairs)]
            self.assertEqual([mixer_at(prime, many, pairs, number) for number in range(len(right))], right)
            self.assertEqual([mixer_number(mixer, pairs) for mixer in right], list(range(len(right))))
            self.assertEqual(mixers_many(prime, many, pairs), len(right))

    def test_one_key_twice_and_like_rests(self):
        for pairs in ([(3, 1), (3, 1)], [(3, 1), (3, 2)], [(3, 1), (8, 1)], [(3, 1), (8, 2)], [(0, 1), (5, 1)],
                      [(0, 1), (5, 2)], [(3, 1), (13, 1), (4, 4)], [(0, 0)] * 12, [(1, 1)] * 11 + [(6, 2)]):
            self.held(5, 2, pairs)
            self.held(5, 3, pairs)

    def test_ranks_beyond_the_prime(self):
        for rank in (5, 6, -1, -5, 10 ** 59, -(10 ** 59)):
            self.held(5, 2, [(3, rank)])
            self.held(5, 2, [(0, rank)])
            self.held(5, 2, [(1, 1), (2, 2), (3, rank)])

    def test_more_pairs_than_parts(self):
        for mixer in all_mixers(5, 2):
            pairs = [(key, plain_rank(mixer, key)) for key in range(12)]
            self.held(5, 2, pairs)
            self.held(5, 1, pairs)
            for at in (0, 3, 4):
                self.held(5, 2, pairs[:at] + [(at, (pairs[at][1] + 1) % 5)])
            self.held(5, 2, pairs[:4] + [(4, (pairs[4][1] + 1) % 5)])
            self.held(5, 2, pairs[1:4] + [(0, (pairs[0][1] + 1) % 5)])

    def test_as_many_parts_as_pairs(self):
        rng = dice(95)
        for prime in (11, 101, 9973):
            for many in range(1, 9):
                for first in (0, 1):
                    rests = [0] * first + rng.sample(range(1, prime), many - first)
                    pairs = [(rest + prime * rng.randrange(10 ** 12), rng.randrange(prime)) for rest in rests]
                    rng.shuffle(pairs)
                    self.assertEqual(mixers_many(prime, many, pairs), 1)
                    mixer = mixer_at(prime, many, pairs, 0)
                    self.assertTrue(plain_deals(mixer, pairs))
                    self.assertEqual(len(mixer[1]), many)
                    self.assertEqual(mixer_number(mixer, pairs), 0)
                    with self.assertRaises(NoNumber):
                        mixer_at(prime, many, pairs, 1)

    def test_great_primes(self):
        rng = dice(96)
        for known in range(8):
            rests = rng.sample(range(9973), known)
            for with_nought in (rests, [0] + rests[1:]) if rests else ([],):
                pairs = [(rest, rng.randrange(9973)) for rest in with_nought]
                ways = 9973 ** (8 - known)
                self.assertEqual(mixers_many(9973, 8, pairs), ways)
                numbers = sorted({0, ways - 1} | {rng.randrange(ways) for _ in range(4)})
                mixers = [mixer_at(9973, 8, pairs, number) for number in numbers]
                self.assertEqual(mixers, sorted(mixers))
                self.assertTrue(all(plain_deals(mixer, pairs) and is_mixer(mixer) for mixer in mixers))
                self.assertEqual([mixer_number(mixer, pairs) for mixer in mixers], numbers)

    def test_twelve_pairs(self):
        mixer = (9973, (5, 0, 9972, 1, 2, 3, 4, 5))
        keys = [GREATEST - 7 * at for at in range(12)]
        pairs = [(key, plain_rank(mixer, key)) for key in keys]
        self.assertEqual(mixers_many(9973, 8, pairs), 1)
        self.assertEqual(mixer_at(9973, 8, pairs, 0), mixer)
        self.assertEqual(mixer_number(mixer, pairs), 0)
        self.assertEqual(mixers_many(9973, 7, pairs), 0)
        pairs[11] = (keys[11], (pairs[11][1] + 1) % 9973)
        self.assertEqual(mixers_many(9973, 8, pairs), 0)


def falls(mixer, keys):
    cards = [(key, plain_rank(mixer, key), 0) for key in keys]
    return all(better(one, other) for one, other in zip(cards, cards[1:]))


def tops(mixer, keys, key):
    return all(better((key, plain_rank(mixer, key), 0), (other, plain_rank(mixer, other), 0))
               for other in keys if other != key)


class Rows(unittest.TestCase):
    def rows(self, prime, many):
        """Rows of keys of unlike rests, no more than parts; some keys far above the prime."""
        for length in range(min(prime, many) + 1):
            for rests in itertools.permutations(range(prime), length):
                yield list(rests)
                yield [rest + prime * (rest * 7 % 3) for rest in rests]

    def test_all_small(self):
        for prime, many in ((2, 1), (2, 2), (2, 3), (3, 2), (3, 3), (3, 4), (5, 2), (5, 3)):
            mixers = all_mixers(prime, many)
            for keys in self.rows(prime, many):
                kept = list(keys)
                self.assertEqual(falling_many(prime, many, keys), sum(1 for mixer in mixers if falls(mixer, keys)))
                self.assertEqual(falling_many(prime, many, tuple(keys)), falling_many(prime, many, keys))
                for key in keys:
                    due = sum(1 for mixer in mixers if tops(mixer, keys, key))
                    self.assertEqual(topping_many(prime, many, keys, key), due)
                    self.assertEqual(topping_many(prime, many, tuple(keys), key), due)
                self.assertEqual(keys, kept)

    def test_told(self):
        self.assertEqual(falling_many(9973, 8, []), 9973 ** 8)
        self.assertEqual(falling_many(9973, 8, [5]), 9973 ** 8)
        self.assertEqual(topping_many(9973, 8, [5], 5), 9973 ** 8)
        self.assertEqual(falling_many(9973, 2, [1, 2]), 9973 * 9974 // 2)
        self.assertEqual(falling_many(9973, 2, [2, 1]), 9973 * 9972 // 2)
        self.assertEqual(topping_many(9973, 2, [1, 2], 1), 9973 * 9974 // 2)
        self.assertEqual(topping_many(9973, 2, [1, 2], 2), 9973 * 9972 // 2)

    def test_great(self):
        keys = [GREATEST - 3 * at for at in range(8)]
        self.assertEqual(sum(topping_many(9973, 8, keys, key) for key in keys), 9973 ** 8)
        few = keys[:4]
        self.assertEqual(sum(falling_many(9973, 6, row) for row in itertools.permutations(few)), 9973 ** 6)

    def test_one_rest(self):
        for keys, bad in (([1, 2, 6], 6), ([3, 3], 3), ([0, 5], 5), ([5, 0], 0), ([1, 2, 3, 7, 6], 7),
                          ([0, 1, 2, 3, 4, 5], 5), ([GREATEST, 1, 0], 0)):
            for many in (1, 2, 8):
                for ask in (lambda: falling_many(5, many, keys), lambda: topping_many(5, many, keys, keys[0])):
                    with self.assertRaises(OneRest) as caught:
                        ask()
                    self.assertEqual(caught.exception.key, bad)

    def test_too_many(self):
        for many in (1, 2, 3, 7):
            keys = list(range(many + 1))
            for ask in (lambda: falling_many(11, many, keys), lambda: topping_many(11, many, keys, 0)):
                with self.assertRaises(TooMany) as caught:
                    ask()
                self.assertEqual(caught.exception.most, many)
            self.assertGreater(falling_many(11, many + 1, keys), 0)


if __name__ == "__main__":
    unittest.main()
