import unittest

from crestkeys.errors import Clash, NoNumber
from crestkeys.store import Store
from crestkeys.versions import both_come_of, differing, merged, new_in, steps
from tests.making import crest_by_leafing, dice, flat, grown, left_edge, nodes, right_edge, rising

ASKS = (both_come_of, steps, differing, merged, new_in)


def line(rows, version):
    return [version] + (line(rows, rows[version][0]) if version else [])


def some_stores(seed, times, most=25, most_key=6):
    """Stores with what grown tells of them."""
    rng = dice(seed)
    made = []
    for _ in range(times):
        store = Store()
        made.append((store, grown(rng, store, rng.randint(0, most), most_key)))
    return made


def pairs(rows):
    return [(one, other) for one in range(len(rows)) for other in range(len(rows))]


def forked():
    """A store with the version 2 and two lines that come of it: 3, 4 and 5, 6."""
    store = Store()
    for deed in (("put", (1, 5, 0)), ("put", (2, 6, 0)), ("put", (3, 7, 0)), ("take", 1)):
        store.do(deed)
    store.go(2)
    for deed in (("move", 2, 1), ("raise", 1, 1, 9)):
        store.do(deed)
    return store


class Lines(unittest.TestCase):
    def test_told(self):
        store = forked()
        self.assertEqual(both_come_of(store, 4, 6), 2)
        self.assertEqual((both_come_of(store, 4, 3), both_come_of(store, 3, 4), both_come_of(store, 4, 4)), (3, 3, 4))
        self.assertEqual(both_come_of(store, 0, 6), 0)
        self.assertEqual(steps(store, 4, 6), [("back",), ("back",), ("move", 2, 1), ("raise", 1, 1, 9)])
        self.assertEqual(steps(store, 6, 3), [("back",), ("back",), ("put", (3, 7, 0))])
        self.assertEqual(steps(store, 5, 5), [])
        self.assertEqual(steps(store, 4, 2), [("back",)] * 2)
        self.assertEqual(steps(store, 0, 1), [("put", (1, 5, 0))])

    def test_samples(self):
        for store, rows in some_stores(191, 12):
            for one, other in pairs(rows):
                common = max(set(line(rows, one)) & set(line(rows, other)))
                self.assertEqual(both_come_of(store, one, other), common)
                self.assertEqual(steps(store, one, other), self.plainly(rows, one, other))

    def plainly(self, rows, one, other):
        """By going all ways along forebears, back and by deeds, till the other one is met."""
        ways = {one: []}
        queue = [one]
        for version in queue:
            if version == other:
                return ways[version]
            onward = [(rows[version][0], ("back",))] if version else []
            onward += [(later, row[1]) for later, row in enumerate(rows) if row[0] == version]
            for later, step in onward:
                if later not in ways:
                    ways[later] = ways[version] + [step]
                    queue.append(later)

    def test_the_steps_lead_there(self):
        for store, rows in some_stores(192, 6):
            for one, other in pairs(rows)[::7]:
                store.go(one)
                for step in steps(store, one, other):
                    store.back() if step == ("back",) else store.do(step)
                    if store.many() == 200:
                        break
                else:
                    self.assertEqual(store.cards(store.now()), store.cards(other))

    def test_a_long_line(self):
        store = Store()
        for key in range(199):
            store.do(("put", (key % 40, key, 0)))
        self.assertEqual(len(steps(store, 199, 0)), 199)
        self.assertEqual(len(steps(store, 0, 199)), 199)
        self.assertEqual((both_come_of(store, 199, 0), both_come_of(store, 150, 199)), (0, 150))


class Differing(unittest.TestCase):
    def test_told(self):
        store = forked()
        self.assertEqual(differing(store, 4, 6), [(1, None, (1, 5, 9)), (2, (2, 6, 0), (2, 1, 0)), (3, (3, 7, 0), None)])
        self.assertEqual(differing(store, 6, 4), [(1, (1, 5, 9), None), (2, (2, 1, 0), (2, 6, 0)), (3, None, (3, 7, 0))])
        self.assertEqual(differing(store, 4, 4), [])
        self.assertEqual(differing(store, 0, 1), [(1, None, (1, 5, 0))])

    def test_samples(self):
        for store, rows in some_stores(193, 12):
            for one, other in pairs(rows):
                ones, others = rows[one][2], rows[other][2]
                due = [(key, ones.get(key), others.get(key)) for key in sorted(set(ones) | set(others))
                       if ones.get(key) != others.get(key)]
                self.assertEqual(differing(store, one, other), due)


class Merged(unittest.TestCase):
    def test_told(self):
        store = forked()
        for one, other in ((4, 6), (6, 4)):
            with self.assertRaises(Clash) as caught:
                merged(store, one, other)
            self.assertEqual(caught.exception.key, 1)
        self.assertEqual(merged(store, 3, 6), [(1, 5, 9), (2, 1, 0), (3, 7, 0)])
        self.assertEqual(merged(store, 6, 3), [(1, 5, 9), (2, 1, 0), (3, 7, 0)])
        self.assertEqual(merged(store, 4, 5), [(2, 1, 0), (3, 7, 0)])
        self.assertEqual((store.now(), store.many()), (6, 7))

    def test_alike_changes(self):
        store = Store()
        store.do(("put", (1, 5, 0)))
        store.do(("put", (2, 5, 0)))
        for deeds in ((("take", 1), ("put", (3, 3, 3)), ("move", 2, 7)), (("move", 2, 7), ("take", 1), ("put", (3, 3, 3)))):
            store.go(2)
            for deed in deeds:
                store.do(deed)
        self.assertEqual(merged(store, 5, 8), [(2, 7, 0), (3, 3, 3)])
        # There and back is no change.
        store.go(2)
        store.do(("raise", 1, 2, 5))
        store.do(("raise", 1, 2, -5))
        self.assertEqual(merged(store, 10, 5), [(2, 7, 0), (3, 3, 3)])
        self.assertEqual(merged(store, 5, 10), [(2, 7, 0), (3, 3, 3)])

    def test_more_than_forty(self):
        store = Store()
        for first in (0, 40):
            store.go(0)
            for key in range(first, first + 40):
                store.do(("put", (key, key, key)))
        for one, other in ((40, 80), (80, 40)):
            self.assertEqual(merged(store, one, other), [(key, key, key) for key in range(80)])

    def test_the_least_key_clashes(self):
        store = Store()
        for rank in (1, 2):
            store.go(0)
            for key in (9, 4, 7):
                store.do(("put", (key, rank if key > 4 else 0, 0)))
        for one, other in ((3, 6), (6, 3)):
            with self.assertRaises(Clash) as caught:
                merged(store, one, other)
            self.assertEqual(caught.exception.key, 7)
        # One takes what the other one changes.
        store.go(6)
        store.do(("take", 7))
        store.go(6)
        store.do(("raise", 7, 9, 1))
        for one, other in ((7, 8), (8, 7)):
            with self.assertRaises(Clash) as caught:
                merged(store, one, other)
            self.assertEqual(caught.exception.key, 7)

    def test_samples(self):
        clashes = []
        for store, rows in some_stores(194, 14):
            for one, other in pairs(rows):
                due = self.plainly(rows, one, other)
                clashes.append(isinstance(due, int))
                if isinstance(due, int):
                    with self.assertRaises(Clash) as caught:
                        merged(store, one, other)
                    self.assertEqual(caught.exception.key, due)
                else:
                    self.assertEqual(merged(store, one, other), due)
                if other in line(rows, one):
                    self.assertEqual(due, rising(rows[one][2].values()))
                self.assertEqual(due, self.plainly(rows, other, one))
        self.assertEqual(set(clashes), {True, False})

    def plainly(self, rows, one, other):
        """The cards, or the least key that clashes."""
        before = rows[max(set(line(rows, one)) & set(line(rows, other)))][2]
        ones, others = rows[one][2], rows[other][2]
        cards = dict(before)
        changes = [{key: side.get(key) for key in {*before, *side} if side.get(key) != before.get(key)}
                   for side in (ones, others)]
        clash = [key for key in changes[0] if key in changes[1] and changes[0][key] != changes[1][key]]
        if clash:
            return min(clash)
        for change in changes:
            cards.update(change)
        return rising(card for card in cards.values() if card is not None)


def road_to(tree, key):
    met = []
    while tree != ():
        met.append(tree[1][0])
        if tree[1][0] == key:
            break
        tree = tree[0] if key < tree[1][0] else tree[2]
    return met


def road_and_seam(tree, key):
    for left, card, right, _ in nodes(tree):
        if card[0] == key:
            return set(road_to(tree, key)) | {one[0] for one in right_edge(left) + left_edge(right)}


def parts_of(tree):
    return [(left, card, right) for left, card, right, _ in nodes(tree)]


class NewIn(unittest.TestCase):
    def test_told(self):
        store = forked()
        self.assertEqual(new_in(store, 3, 2), [3])
        self.assertEqual(new_in(store, 2, 3), [])
        self.assertEqual(new_in(store, 4, 3), [2, 3])
        self.assertEqual(new_in(store, 4, 4), [])
        self.assertEqual((new_in(store, 1, 0), new_in(store, 0, 1)), ([1], []))
        self.assertEqual(new_in(store, 6, 5), [1])

    def test_samples(self):
        for store, rows in some_stores(195, 12):
            trees = [crest_by_leafing(cards.values()) for _, _, cards in rows]
            for one, other in pairs(rows):
                beside = parts_of(trees[other])
                due = [part[1][0] for part in parts_of(trees[one]) if part not in beside]
                self.assertEqual(new_in(store, one, other), due)
                if rows[one][2] == rows[other][2]:
                    self.assertEqual(due, [])

    def test_behind_each_kind_of_deed(self):
        seen = {}
        for store, rows in some_stores(196, 60, 40, 20):
            trees = [crest_by_leafing(cards.values()) for _, _, cards in rows]
            for version, (forebear, deed, cards) in enumerate(rows[1:], 1):
                told = set(new_in(store, version, forebear))
                word, key = deed[0], deed[1][0] if deed[0] == "put" else deed[1]
                if word == "put" and key not in rows[forebear][2] or word == "move":
                    self.assertLessEqual(told, road_and_seam(trees[version], key))
                elif word == "take":
                    self.assertLessEqual(told, road_and_seam(trees[forebear], key))
                elif word == "raise" and deed[3] != 0:
                    held = [card[0] for left, card, right in parts_of(trees[version])
                            if any(deed[1] <= one[0] <= deed[2] for one in flat((left, card, right)))]
                    self.assertEqual(sorted(told), held)
                seen[word] = seen.get(word, 0) + bool(told)
        self.assertTrue(all(seen[word] > 30 for word in ("put", "take", "move", "raise")), seen)

    def test_a_put_that_is_new_is_new(self):
        store = Store()
        store.do(("put", (5, 5, 0)))
        store.do(("put", (4, 9, 0)))
        self.assertEqual(new_in(store, 2, 1), [4])
        store.do(("put", (6, 1, 0)))
        self.assertEqual(new_in(store, 3, 2), [4, 5, 6])


class All(unittest.TestCase):
    def test_no_number_of_the_one_then_of_the_other(self):
        for store in (Store(), forked()):
            good = store.many() - 1
            for bad in (-1, -2, store.many(), 10 ** 59, -(10 ** 59)):
                for ask in ASKS:
                    for one, other in ((bad, good), (good, bad), (bad, bad - 7), (bad, 99)):
                        with self.assertRaises(NoNumber) as caught:
                            ask(store, one, other)
                        self.assertEqual(caught.exception.number, other if one == good else one)

    def test_lists_are_the_askers_own_and_nothing_changes(self):
        store = forked()
        before = [store.now(), store.many()] + [[store.cards(one), store.deed(one)] for one in range(7)]
        for ask in ASKS[1:]:
            for one, other in ((3, 6), (6, 3), (4, 0), (0, 4)):
                told = ask(store, one, other)
                self.assertIs(type(told), list)
                kept = list(told)
                told.append(None)
                self.assertEqual(ask(store, one, other), kept)
        after = [store.now(), store.many()] + [[store.cards(one), store.deed(one)] for one in range(7)]
        self.assertEqual(after, before)


if __name__ == "__main__":
    unittest.main()
