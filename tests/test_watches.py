import math
import unittest
from fractions import Fraction

from crestkeys.errors import NoNumber, NoWatch
from crestkeys.facts import orders_many
from crestkeys.histories import shape_share
from crestkeys.watches import end_share, end_tells, end_way, ends_many, last_seen, parted, walked
from tests.making import (all_orders, crest_by_leafing, dice, flat, frozen, nodes, orders_by_shape, plain_fraction,
                          plain_states, shape_of_keys)

WAYS = ("kept", "fresh")
END = ("end",)


def put(*keys, then=END):
    """A watch that puts the keys and then goes on."""
    for key in reversed(keys):
        then = ("put", key, then)
    return then


def some_watch(rng, keys, depth, stands=(), dealt=0):
    """A watch of chance that can be done, of at most so many within one another and six items on a way."""
    if depth == 1 or rng.random() < .05:
        return END
    absent = [key for key in keys if key not in stands]
    words = ["put"] * 3 * (dealt < 6 and bool(absent)) + ["take"] * bool(stands) + ["above"] * 3 * (len(stands) > 1)
    if not words:
        return END
    word = rng.choice(words)
    if word == "put":
        key = rng.choice(absent)
        return ("put", key, some_watch(rng, keys, depth - 1, stands + (key,), dealt + 1))
    if word == "take":
        key = rng.choice(stands)
        left = tuple(other for other in stands if other != key)
        return ("take", key, some_watch(rng, keys, depth - 1, left, dealt))
    one, other = rng.sample(stands, 2)
    return ("above", one, other, some_watch(rng, keys, depth - 1, stands, dealt),
            some_watch(rng, keys, depth - 1, stands, dealt))


def within(watch):
    return [watch] + [one for part in watch if isinstance(part, tuple) for one in within(part)]


def small_watches(seed, times, most_items=5, keys=(1, 4, -6, 10 ** 59, 9), depth=9):
    rng = dice(seed)
    made = [END, put(3), put(1, 2, then=("above", 1, 2, END, END))]
    while len(made) < times:
        watch = some_watch(rng, keys, rng.randint(4, depth))
        if len(within(watch)) <= 40 and max(len(puts_of(path)) for path in paths(watch)) <= most_items:
            made.append(watch)
    return made


def paths(watch):
    """For each end, from the left, the deeds and looks ahead of it; looks as ("look", key, other, went on with)."""
    if watch == END:
        return [[]]
    if watch[0] == "above":
        return [[("look", watch[1], watch[2], word)] + path
                for word, part in ((True, watch[3]), (False, watch[4])) for path in paths(part)]
    return [[watch[:2]] + path for path in paths(watch[2])]


def puts_of(path):
    return [step[1] for step in path if step[0] == "put"]


def items_of(path, way):
    return len(puts_of(path)) if way == "fresh" else len(set(puts_of(path)))


def plain_fact(stands, one, other, word):
    low, high = sorted((one, other))
    others = sorted(stands[key] for key in stands if low <= key <= high and key != one)
    return (stands[one], tuple(others), word)


def plain_ways(watch, way):
    """What end_way tells, of each end."""
    told = []
    for path in paths(watch):
        states = plain_states(path, way)
        facts = [plain_fact(stands, *step[1:]) for step, stands in zip(path, states) if step[0] == "look"]
        last = states[-1] if states else {}
        told.append((tuple(sorted(last.items())), items_of(path, way), facts))
    return told


def most_items(watch, way):
    return max(items_of(path, way) for path in paths(watch))


def stands_above(stands, one, other, order):
    """By a look at the crest itself: the other one's card hangs beneath the first one's."""
    crest = crest_by_leafing([(key, len(order) - order.index(item), 0) for key, item in stands.items()])
    for left, card, right, _ in nodes(crest):
        if card[0] == one:
            return other in [beneath[0] for part in (left, right) for beneath in flat(part)]


def plain_walk(watch, way, order):
    """The end and what stands there; of all paths the one whose looks the crests bear out."""
    for end, path in enumerate(paths(watch)):
        states = plain_states(path, way)
        # A way of fewer items takes them in the order in which they stand there.
        own = [item for item in order if item < items_of(path, way)]
        if all(stands_above(stands, step[1], step[2], own) is step[3]
               for step, stands in zip(path, states) if step[0] == "look"):
            last = states[-1] if states else {}
            return end, tuple(sorted(last)), shape_of_keys(last, own)


def all_walks(watch, way):
    return [plain_walk(watch, way, order) for order in all_orders(most_items(watch, way))]


def plain_last(watch, way):
    walks = all_walks(watch, way)
    counts = {}
    for _, keys, shape in walks:
        counts[(keys, shape)] = counts.get((keys, shape), 0) + 1
    return {seen: Fraction(many, len(walks)) for seen, many in counts.items()}


class Ends(unittest.TestCase):
    # Of 5, 2 and 9, is 2 above 9 (so above 5, too)? If not, 5 goes and comes again.
    watch = put(5, 2, 9, then=("above", 2, 9, END, ("take", 5, ("put", 5, ("above", 9, 2, END, END)))))

    def test_told(self):
        self.assertEqual(ends_many(self.watch), 3)
        self.assertEqual(ends_many(END), 1)
        stands = ((2, 1), (5, 0), (9, 2))
        self.assertEqual(end_way(self.watch, "kept", 0), (stands, 3, [(1, (0, 2), True)]))
        self.assertEqual(end_way(self.watch, "kept", 1), (stands, 3, [(1, (0, 2), False), (2, (0, 1), True)]))
        again = ((2, 1), (5, 3), (9, 2))
        self.assertEqual(end_way(self.watch, "fresh", 1), (again, 4, [(1, (0, 2), False), (2, (1, 3), True)]))
        self.assertEqual(end_way(self.watch, "fresh", 2), (again, 4, [(1, (0, 2), False), (2, (1, 3), False)]))
        self.assertEqual(end_way(END, "kept", 0), ((), 0, []))

    def test_shares_told(self):
        self.assertEqual([end_share(self.watch, "kept", end) for end in range(3)], [(1, 3)] * 3)
        self.assertEqual([end_share(self.watch, "fresh", end) for end in range(3)], [(1, 3)] * 3)
        swaps = put(1, 2, then=("above", 1, 2, ("take", 1, ("put", 1, ("above", 1, 2, END, END))), END))
        self.assertEqual([end_share(swaps, "kept", end) for end in range(3)], [(1, 2), (0, 1), (1, 2)])
        self.assertEqual([end_share(swaps, "fresh", end) for end in range(3)], [(1, 3), (1, 6), (1, 2)])
        self.assertEqual(end_share(END, "kept", 0), (1, 1))

    def test_samples(self):
        for watch in small_watches(131, 120):
            kept = frozen(watch)
            self.assertEqual(ends_many(watch), within(watch).count(END))
            for way in WAYS:
                for end, due in enumerate(plain_ways(watch, way)):
                    told = end_way(watch, way, end)
                    self.assertEqual(told, due)
                    self.assertEqual([type(part) for part in told], [tuple, int, list])
                    told[2].append(None)
                    self.assertEqual(end_way(watch, way, end), due)
            self.assertEqual(frozen(watch), kept)

    def test_shares_held_against_all_orders(self):
        noughts = 0
        for watch in small_watches(132, 80):
            for way in WAYS:
                walks = [end for end, _, _ in all_walks(watch, way)]
                shares = [end_share(watch, way, end) for end in range(ends_many(watch))]
                due = [plain_fraction(Fraction(walks.count(end), len(walks))) for end in range(ends_many(watch))]
                self.assertEqual(shares, due)
                self.assertEqual(sum(Fraction(*share) for share in shares), 1)
                noughts += shares.count((0, 1))
        self.assertGreater(noughts, 3)

    def test_shares_are_those_of_the_facts(self):
        for watch in small_watches(133, 40, 6):
            for way in WAYS:
                for end in range(ends_many(watch)):
                    _, many, facts = end_way(watch, way, end)
                    share = Fraction(orders_many(many, facts), math.factorial(many))
                    self.assertEqual(end_share(watch, way, end), plain_fraction(share))

    def test_no_number(self):
        for watch in (END, self.watch, put(1, 2)):
            for way in WAYS:
                for end in (-1, -2, -(10 ** 59), ends_many(watch), ends_many(watch) + 1, 10 ** 59):
                    for ask in (end_way, end_share, end_tells):
                        with self.assertRaises(NoNumber) as caught:
                            ask(watch, way, end)
                        self.assertEqual(caught.exception.number, end)

    def test_twelve_within_one_another(self):
        looks = ("above", 1, 6, END, ("above", 2, 5, END, ("above", 3, 4, END, ("above", 6, 1, END, ("take", 1, END)))))
        watch = put(1, 2, 3, 4, 5, 6, then=looks)
        self.assertEqual(len(within(watch)), 6 + 4 + 4 + 2)
        for way in WAYS:
            shares = [end_share(watch, way, end) for end in range(ends_many(watch))]
            self.assertEqual(shares[0], (1, 6))
            self.assertEqual(sum(Fraction(*share) for share in shares), 1)


class NoWatches(unittest.TestCase):
    wrong = ((("take", 1, END), 0), (put(1, 1), 1), (put(1, then=("take", 2, END)), 1),
             (put(1, 2, then=("above", 1, 1, END, END)), 2), (put(1, 2, then=("above", 1, 3, END, END)), 2),
             (put(1, 2, then=("above", 3, 1, END, END)), 2), (("above", 1, 2, END, END), 0),
             (("above", 1, 1, END, END), 0),
             (put(1, 2, then=("above", 1, 2, ("take", 1, END), ("put", 1, END))), 5),
             (put(1, 2, then=("above", 1, 2, ("take", 1, ("take", 1, END)), ("put", 1, END))), 4),
             (put(1, 2, then=("above", 1, 2, ("above", 2, 1, END, END), ("take", 3, END))), 6),
             (put(1, 2, then=("above", 1, 2, ("take", 1, ("put", 1, END)), ("take", 1, ("above", 1, 2, END, END)))), 7),
             (put(1, then=("take", 1, ("take", 1, END))), 2))

    def refused(self, at, ask, *told):
        for _ in range(2):
            with self.assertRaises(NoWatch) as caught:
                ask(*told)
            self.assertEqual(caught.exception.at, at, told)

    def test_the_first_wrong_one(self):
        for watch, at in self.wrong:
            self.refused(at, ends_many, watch)
            for way in WAYS:
                # An end that isn't would be refused behind it.
                for end in (0, -1, 99):
                    for ask in (end_way, end_share, end_tells):
                        self.refused(at, ask, watch, way, end)
                self.refused(at, last_seen, watch, way)
                self.refused(at, parted, watch, END, way)
                self.refused(at, parted, END, watch, way)
                self.refused(at, walked, watch, way, ())

    def test_of_the_one_ahead_of_the_other(self):
        for one, at in self.wrong:
            for other, _ in self.wrong:
                for way in WAYS:
                    self.refused(at, parted, one, other, way)

    def test_samples(self):
        rng = dice(134)
        found = []
        for _ in range(400):
            watch = self.any_watch(rng, 7)
            at = self.first_wrong(watch)
            if at is None:
                self.assertEqual(ends_many(watch), within(watch).count(END))
            else:
                found.append(at)
                self.refused(at, ends_many, watch)
                self.refused(at, last_seen, watch, rng.choice(WAYS))
        self.assertGreater(len(set(found)), 5)

    def any_watch(self, rng, depth, stands=()):
        """One that can often not be done."""
        if depth == 1:
            return END
        keys = (1, 2, 3)
        if rng.random() < .9 and len(stands) < 2:
            key = rng.choice([key for key in keys if key not in stands])
            return ("put", key, self.any_watch(rng, depth - 1, stands + (key,)))
        word = rng.choice(["put", "take", "above", "above", "above"])
        if word == "above":
            one, other = rng.sample(stands, 2) if len(stands) > 1 and rng.random() < .9 else rng.choices(keys, k=2)
            return ("above", one, other, self.any_watch(rng, depth - 1, stands), self.any_watch(rng, depth - 1, stands))
        key = rng.choice(keys)
        behind = tuple(other for other in stands if other != key) + ((key,) if word == "put" else ())
        return (word, key, self.any_watch(rng, depth - 1, behind))

    def first_wrong(self, watch):
        for number, (one, stands) in enumerate(self.numbered(watch, frozenset())):
            word, *keys = [part for part in one if not isinstance(part, tuple)]
            if (word == "put" and keys[0] in stands or word == "take" and keys[0] not in stands
                    or word == "above" and (len(set(keys)) == 1 or not set(keys) <= stands)):
                return number
        return None

    def numbered(self, watch, stands):
        rows = [(watch, stands)]
        if watch[0] == "above":
            return rows + self.numbered(watch[3], stands) + self.numbered(watch[4], stands)
        if watch == END:
            return rows
        return rows + self.numbered(watch[2], stands | {watch[1]} if watch[0] == "put" else stands - {watch[1]})


class EndTells(unittest.TestCase):
    def test_told(self):
        look = ("above", 1, 2, END, END)
        watch = put(1, 2, then=look)
        for way in WAYS:
            self.assertEqual(end_tells(watch, way, 0), ("tells", (0, 1), (1, 1), (1, 2)))
            self.assertEqual(end_tells(watch, way, 1), ("tells", (0, 1), (0, 1), (1, 2)))
            twice = put(1, 2, then=("above", 1, 2, look, look))
            self.assertEqual([end_tells(twice, way, end)[0] for end in range(4)], ["tells", "never", "never", "tells"])
            self.assertEqual(end_tells(END, way, 0), ("nothing",))
            self.assertEqual(end_tells(put(1, 2, 3), way, 0), ("nothing",))
        again = put(1, 2, then=("above", 1, 2, ("take", 1, ("take", 2, put(1, 2))), END))
        self.assertEqual(end_tells(again, "kept", 0), ("tells", (0, 1), (1, 1), (1, 2)))
        self.assertEqual(end_tells(again, "fresh", 0), ("nothing",))

    def test_held_against_all_orders(self):
        words = []
        for watch in small_watches(135, 90):
            for way in WAYS:
                walks = all_walks(watch, way)
                for end, (pairs, _, facts) in enumerate(plain_ways(watch, way)):
                    told = end_tells(watch, way, end)
                    seen = [shape for at, _, shape in walks if at == end]
                    self.assertEqual(told, self.plainly(len(pairs), seen))
                    self.assertEqual(end_tells(watch, way, end), told)
                    words.append(told[0])
                    items = {item for _, item in pairs}
                    if seen and not any(items & {one, *others} for one, others, _ in facts):
                        self.assertEqual(told, ("nothing",))
        for word in ("never", "tells", "nothing"):
            self.assertGreater(words.count(word), 5)

    def plainly(self, many, seen):
        if not seen:
            return ("never",)
        for shape, orders in orders_by_shape(many).items():
            share, due = Fraction(seen.count(shape), len(seen)), Fraction(len(orders), math.factorial(many))
            self.assertEqual(shape_share(shape), plain_fraction(due))
            if share != due:
                return ("tells", shape, plain_fraction(share), plain_fraction(due))
        return ("nothing",)


class LastSeen(unittest.TestCase):
    def test_told(self):
        watch = put(1, 2, then=("above", 1, 2, ("take", 1, END), END))
        for way in WAYS:
            self.assertEqual(last_seen(watch, way), [((1, 2), (1, 0), (1, 2)), ((2,), (0,), (1, 2))])
            self.assertEqual(last_seen(END, way), [((), (), (1, 1))])
            self.assertEqual(last_seen(put(1, 2), way), [((1, 2), (0, 1), (1, 2)), ((1, 2), (1, 0), (1, 2))])

    def test_held_against_all_orders(self):
        for watch in small_watches(136, 80):
            kept = frozen(watch)
            for way in WAYS:
                due = [(*seen, plain_fraction(share)) for seen, share in sorted(plain_last(watch, way).items())]
                told = last_seen(watch, way)
                self.assertEqual(told, due)
                self.assertEqual(sum(Fraction(*share) for _, _, share in told), 1)
                self.assertEqual((type(told), {tuple(map(type, row)) for row in told}), (list, {(tuple,) * 3}))
                told.append(None)
                self.assertEqual(last_seen(watch, way), due)
            self.assertEqual(frozen(watch), kept)

    def test_six_items(self):
        watch = put(1, 2, 3, 4, 5, 6, then=("above", 1, 6, ("take", 6, END), ("take", 1, END)))
        for way in WAYS:
            told = last_seen(watch, way)
            self.assertEqual(sum(Fraction(*share) for _, _, share in told), 1)
            self.assertEqual(told, [(*seen, plain_fraction(share))
                                    for seen, share in sorted(plain_last(watch, way).items())])


class Parted(unittest.TestCase):
    def test_told(self):
        asks = put(1, 2, then=("above", 1, 2, END, END))
        swaps = put(1, 2, then=("above", 1, 2, ("take", 1, ("put", 1, END)), END))
        for way in WAYS:
            self.assertIsNone(parted(asks, asks, way))
            self.assertIsNone(parted(asks, put(2, 1), way))
            self.assertEqual(parted(END, put(5), way), ((), (), (1, 1), (0, 1)))
            self.assertEqual(parted(put(5), END, way), ((), (), (0, 1), (1, 1)))
        self.assertIsNone(parted(asks, swaps, "kept"))
        # Who outranked the other one is likely to do so again, but not sure to.
        self.assertEqual(parted(asks, swaps, "fresh"), ((1, 2), (0, 1), (1, 2), (1, 3)))
        self.assertEqual(parted(swaps, asks, "fresh"), ((1, 2), (0, 1), (1, 3), (1, 2)))

    def test_held_against_all_orders(self):
        rng = dice(137)
        watches = small_watches(138, 60, 4, (1, 2), 7)
        answers = []
        for _ in range(150):
            one, other = rng.sample(watches, 2)
            kept = frozen([one, other])
            for way in WAYS:
                ones, others = plain_last(one, way), plain_last(other, way)
                unlike = [seen for seen in sorted(set(ones) | set(others)) if ones.get(seen, 0) != others.get(seen, 0)]
                due = None
                if unlike:
                    due = (*unlike[0], *(plain_fraction(Fraction(shares.get(unlike[0], 0))) for shares in (ones, others)))
                answers.append(due)
                self.assertEqual(parted(one, other, way), due)
                self.assertIsNone(parted(one, one, way))
            self.assertEqual(frozen([one, other]), kept)
        self.assertGreater(len([due for due in answers if due is None]), 3)
        self.assertGreater(len([due for due in answers if due and (0, 1) not in due[2:]]), 3)


class Walked(unittest.TestCase):
    def test_told(self):
        watch = Ends.watch
        self.assertEqual(walked(watch, "kept", (1, 0, 2)), (0, (0, 1, 2)))
        self.assertEqual(walked(watch, "kept", (2, 0, 1)), (1, (2, 1, 0)))
        self.assertEqual(walked(watch, "fresh", (3, 1, 0, 2)), (0, (0, 1, 2)))
        self.assertEqual(walked(watch, "fresh", (3, 2, 1, 0)), (2, (1, 0, 2)))
        self.assertEqual(walked(END, "kept", ()), (0, ()))

    def test_held_against_all_orders(self):
        for watch in small_watches(139, 60):
            kept = frozen(watch)
            for way in WAYS:
                for order in all_orders(most_items(watch, way)):
                    end, _, shape = plain_walk(watch, way, order)
                    self.assertEqual(walked(watch, way, order), (end, shape))
            self.assertEqual(frozen(watch), kept)

    def test_a_way_with_fewer_items(self):
        watch = put(1, 2, then=("above", 1, 2, END, put(3, 4)))
        for way in WAYS:
            self.assertEqual(walked(watch, way, (3, 2, 0, 1)), (0, (0, 1)))
            self.assertEqual(walked(watch, way, (3, 1, 2, 0)), (1, (3, 1, 0, 2)))


if __name__ == "__main__":
    unittest.main()
