"""Mixers, (prime, parts): ranks dealt by sums of the keys, and how many mixers deal what."""

from crestkeys.cards import is_whole
from crestkeys.errors import NoNumber, OneRest, TooMany
from crestkeys.reckoning import choose, power

ABOVE_PRIMES = 10000
MOST_PARTS = 8


def is_prime(number):
    """True where the number is a prime one."""
    if number < 2:
        return False
    by = 2
    while by * by <= number:
        if number % by == 0:
            return False
        by += 1
    return True


def is_mixer(thing):
    """True where thing, whatever it is, is a mixer."""
    if not isinstance(thing, tuple) or len(thing) != 2:
        return False
    prime, parts = thing
    # The bound is looked at first, for a great number would be divided long.
    if not is_whole(prime) or prime >= ABOVE_PRIMES or not is_prime(prime):
        return False
    if not isinstance(parts, tuple) or not 1 <= len(parts) <= MOST_PARTS:
        return False
    return all([is_whole(part) and 0 <= part < prime for part in parts])


def dealt(prime, parts, key):
    """What parts, perhaps none, deal to the key."""
    found = 0
    for part in parts[::-1]:
        found = (found * key + part) % prime
    return found


def rank_by(mixer, key):
    """The rank that the mixer deals to the key."""
    return dealt(mixer[0], mixer[1], key)


def deals(mixer, pairs):
    """True where the mixer deals each key of the pairs (key, rank) its rank."""
    return all([rank_by(mixer, key) == rank for key, rank in pairs])


def ranks_by_rests(prime, pairs):
    """For each rest of a key the rank due to it; None where no mixer can deal the pairs."""
    ranks = {}
    for key, rank in pairs:
        rest = key % prime
        if not 0 <= rank < prime or ranks.get(rest, rank) != rank:
            return None
        ranks[rest] = rank
    return ranks


def inverse(number, prime):
    """The number by which the number comes to the rest 1."""
    # That is number ** (prime - 2), for number ** (prime - 1) has the rest 1.
    found = 1
    times = prime - 2
    while times > 0:
        if times % 2 == 1:
            found = found * number % prime
        number = number * number % prime
        times //= 2
    return found


def parts_through(prime, points):
    """As many parts as points (rest, rank), of unlike rests, that deal each rest its rank."""
    parts = [0] * len(points)
    # These parts deal 0 to all rests gone through, so what they add changes nothing there.
    noughts = [1]
    for rest, rank in points:
        more = (rank - dealt(prime, parts, rest)) * inverse(dealt(prime, noughts, rest), prime)
        for at, part in enumerate(noughts):
            parts[at] = (parts[at] + more * part) % prime
        noughts = [(up - rest * part) % prime for up, part in zip([0] + noughts, noughts + [0])]
    return parts


def parts_behind(prime, many, ranks, known):
    """The parts, so many in all, that stand behind known ones and deal the first rests but 0 their ranks."""
    rests = [rest for rest in ranks if rest != 0]
    points = []
    for rest in rests[:many - len(known)]:
        wanted = ranks[rest] - dealt(prime, known, rest)
        points.append((rest, wanted * inverse(power(rest, len(known)), prime) % prime))
    return parts_through(prime, points)


def mixer_with(prime, many, ranks, digits):
    """The mixer with so many parts whose free ones are the digits and which deals the rests their ranks."""
    # The rest 0 is dealt the first part, whatever the others are. The other rests
    # settle the last parts, so those between are free.
    known = ([ranks[0]] if 0 in ranks else []) + digits
    return (prime, tuple(known + parts_behind(prime, many, ranks, known)))


def mixers_many(prime, many, pairs):
    """How many mixers with the prime and so many parts deal the pairs."""
    ranks = ranks_by_rests(prime, pairs)
    if ranks is None:
        return 0
    if len(ranks) <= many:
        return power(prime, many - len(ranks))
    return 1 if deals(mixer_with(prime, many, ranks, []), pairs) else 0


def digits_of(number, prime, many):
    """A list of so many digits of the number by the prime, the greatest first."""
    digits = []
    for step in range(many):
        digits.append(number % prime)
        number //= prime
    return digits[::-1]


def mixer_at(prime, many, pairs, number):
    """The mixer with the number, from 0, as parts rise, among those that deal the pairs; NoNumber."""
    if not 0 <= number < mixers_many(prime, many, pairs):
        raise NoNumber(number)
    ranks = ranks_by_rests(prime, pairs)
    return mixer_with(prime, many, ranks, digits_of(number, prime, many - len(ranks)))


def mixer_number(mixer, pairs):
    """The mixer's number among those with its prime and as many parts that deal the pairs, as it does."""
    prime, parts = mixer
    ranks = ranks_by_rests(prime, pairs)
    first = 1 if 0 in ranks else 0
    number = 0
    for at in range(len(parts) - len(ranks)):
        number = number * prime + parts[first + at]
    return number


def check_rests(prime, many, keys):
    """Refuses keys of one rest, then more keys than parts."""
    rests = set()
    for key in keys:
        if key % prime in rests:
            raise OneRest(key)
        rests.add(key % prime)
    if len(keys) > many:
        raise TooMany(many)


def falling_many(prime, many, keys):
    """How many mixers with so many parts let each key of the row outrank the next one; OneRest, then TooMany."""
    check_rests(prime, many, keys)
    falls = len([at for at in range(1, len(keys)) if keys[at - 1] > keys[at]])
    ways = choose(prime + len(keys) - 1 - falls, len(keys))
    return ways * power(prime, many - len(keys))


def topping_many(prime, many, keys, key):
    """How many mixers with so many parts let the key outrank all others; OneRest, then TooMany."""
    check_rests(prime, many, keys)
    less = len([other for other in keys if other < key])
    greater = len([other for other in keys if other > key])
    ways = sum([power(rank, less) * power(rank + 1, greater) for rank in range(prime)])
    return ways * power(prime, many - len(keys))
