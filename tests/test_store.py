import unittest

from crestkeys.errors import NoBack, NoCard, NoKey, NoNumber, TooMany
from crestkeys.store import Store
from crestkeys.trees import is_crest
from tests.making import GREATEST, crest_by_leafing, dice, done_plainly, frozen, grown, odd_things, rising

NO_CARDS = [*odd_things(), (), (1, 2), (1, 2, 3, 4), [1, 2, 3], (1, 2, [3]), (True, 2, 3), (1, False, 3), (1, 2, True),
            ("1", 2, 3), (1, None, 3), (-1, 2, 3), (1, -1, 3), (GREATEST + 1, 2, 3), (1, GREATEST + 1, 3),
            (1, 2, GREATEST + 1), (1, 2, -GREATEST - 1), ((1, 2, 3),), "1:2:3"]


def whole(store):
    """All that a store tells."""
    versions = range(store.many())
    return frozen([store.now(), store.many()] + [[store.cards(version), store.tree(version), store.forebear(version),
                                                 store.deed(version)] for version in versions])


def full(many=40):
    store = Store()
    for key in range(many):
        store.do(("put", (key, key * 7 % 11, key)))
    return store


class Deeds(unittest.TestCase):
    def test_at_first(self):
        store = Store()
        self.assertEqual((store.now(), store.many(), store.cards(0), store.tree(0)), (0, 1, [], ()))
        self.assertEqual((store.forebear(0), store.deed(0)), (None, None))

    def test_told(self):
        store = Store()
        self.assertEqual(store.do(("put", (5, 1, 10))), 1)
        self.assertEqual(store.do(("put", (3, 2, 20))), 2)
        self.assertEqual(store.cards(2), [(3, 2, 20), (5, 1, 10)])
        self.assertEqual(store.tree(2), ((), (3, 2, 20), ((), (5, 1, 10), ())))
        self.assertEqual(store.do(("move", 5, 9)), 3)
        self.assertEqual(store.tree(3), (((), (3, 2, 20), ()), (5, 9, 10), ()))
        self.assertEqual(store.do(("raise", 4, 7, -100)), 4)
        self.assertEqual(store.cards(4), [(3, 2, 20), (5, 9, -90)])
        self.assertEqual(store.do(("take", 3)), 5)
        self.assertEqual(store.cards(5), [(5, 9, -90)])
        self.assertEqual((store.now(), store.many()), (5, 6))
        self.assertEqual([store.forebear(version) for version in range(6)], [None, 0, 1, 2, 3, 4])
        self.assertEqual([store.deed(version) for version in range(6)],
                         [None, ("put", (5, 1, 10)), ("put", (3, 2, 20)), ("move", 5, 9), ("raise", 4, 7, -100),
                          ("take", 3)])

    def test_a_put_in_the_place_of_a_card(self):
        store = Store()
        store.do(("put", (5, 1, 10)))
        store.do(("put", (5, 2, 20)))
        self.assertEqual((store.cards(1), store.cards(2)), ([(5, 1, 10)], [(5, 2, 20)]))
        store = full()
        self.assertEqual(store.do(("put", (7, 99, 99))), 41)
        self.assertEqual((len(store.cards(41)), store.cards(41)[7]), (40, (7, 99, 99)))

    def test_deeds_that_change_nothing(self):
        store = full(5)
        before = store.cards(5)
        for deed in (("put", (2, 14 % 11, 2)), ("move", 2, 3), ("raise", 0, 9, 0), ("raise", 9, 0, 5),
                     ("raise", 50, 90, 5)):
            many = store.many()
            self.assertEqual(store.do(deed), many)
            self.assertEqual((store.now(), store.many(), store.cards(many), store.deed(many)),
                             (many, many + 1, before, deed))
            self.assertEqual(store.forebear(many), many - 1)

    def test_go_and_back(self):
        store = full(3)
        self.assertIsNone(store.go(1))
        self.assertEqual((store.now(), store.many()), (1, 4))
        self.assertEqual(store.do(("take", 0)), 4)
        self.assertEqual((store.forebear(4), store.cards(4)), (1, []))
        self.assertIsNone(store.back())
        self.assertEqual((store.now(), store.many()), (1, 5))
        store.back()
        self.assertEqual(store.now(), 0)
        self.assertEqual(store.do(("put", (9, 9, 9))), 5)
        self.assertEqual((store.forebear(5), store.cards(5)), (0, [(9, 9, 9)]))
        self.assertIsNone(store.go(5))
        self.assertEqual((store.now(), store.many()), (5, 6))

    def test_worths_beyond_a_cards_bounds(self):
        store = Store()
        store.do(("put", (5, 1, GREATEST)))
        for more in (1, 10 ** 60 - 1, -(10 ** 60 - 1)):
            before = store.cards(store.now())[0][2]
            version = store.do(("raise", -(10 ** 59), 10 ** 59, more))
            self.assertEqual(store.cards(version), [(5, 1, before + more)])
            self.assertEqual(store.tree(version), ((), (5, 1, before + more), ()))
        self.assertFalse(is_crest(store.tree(2)))
        card = store.cards(3)[0]
        version = store.do(("move", 5, 4))
        self.assertEqual(store.cards(version), [(5, 4, store.cards(version - 1)[0][2])])
        kept = whole(store)
        with self.assertRaises(NoCard):
            store.do(("put", card))
        self.assertEqual(whole(store), kept)

    def test_samples(self):
        rng = dice(181)
        for _ in range(25):
            store = Store()
            rows = grown(rng, store, rng.randint(0, 40))
            self.assertEqual(store.many(), len(rows))
            for version, (forebear, deed, cards) in enumerate(rows):
                self.assertEqual((store.forebear(version), store.deed(version)), (forebear, deed))
                self.assertEqual(store.cards(version), rising(cards.values()))
                self.assertEqual(store.tree(version), crest_by_leafing(cards.values()))

    def test_one_set_of_cards_has_one_tree(self):
        rng = dice(182)
        cards = [(key, rng.randint(0, 5), rng.randint(-9, 9)) for key in range(15)]
        store = Store()
        trees = []
        for _ in range(5):
            store.go(0)
            for card in rng.sample(cards, 15):
                if rng.random() < .5:
                    store.do(("put", (card[0], 99, 0)))
                    store.do(("move", card[0], 2))
                store.do(("put", card))
            trees.append(store.tree(store.now()))
        self.assertEqual(trees, [crest_by_leafing(cards)] * 5)


class Refusals(unittest.TestCase):
    def refused(self, store, error, ask, kept=None):
        before = whole(store)
        for _ in range(2):
            with self.assertRaises(error) as caught:
                ask()
            self.assertEqual(list(vars(caught.exception).values()), [] if kept is None else [kept])
            self.assertEqual(whole(store), before)

    def test_no_card(self):
        for store in (Store(), full(3), full(40)):
            for thing in NO_CARDS:
                handed = frozen(thing)
                self.refused(store, NoCard, lambda: store.do(("put", thing)))
                self.assertEqual(frozen(thing), handed)

    def test_the_bounds_of_cards(self):
        store = Store()
        for card in ((0, 0, -GREATEST), (GREATEST, GREATEST, GREATEST), (1, 0, 0)):
            store.do(("put", card))
        self.assertEqual(store.many(), 4)

    def test_too_many_cards(self):
        store = full(40)
        self.assertEqual(len(store.cards(40)), 40)
        self.refused(store, TooMany, lambda: store.do(("put", (40, 1, 1))), 40)
        store.do(("take", 3))
        store.do(("put", (40, 1, 1)))
        self.assertEqual(len(store.cards(42)), 40)
        self.refused(store, TooMany, lambda: store.do(("put", (3, 1, 1))), 40)

    def test_no_key(self):
        for store in (Store(), full(3)):
            for key in (3, -1, 10 ** 59, -(10 ** 59), GREATEST):
                self.refused(store, NoKey, lambda: store.do(("take", key)), key)
                self.refused(store, NoKey, lambda: store.do(("move", key, 5)), key)

    def test_too_many_versions(self):
        store = full(40)
        while store.many() < 200:
            self.assertEqual(store.do(("raise", 0, 9, 1)), store.many() - 1)
        self.assertEqual((store.many(), store.now()), (200, 199))
        for deed in (("raise", 0, 9, 1), ("raise", 9, 0, 0), ("take", 5), ("move", 5, 5), ("put", (5, 5, 5))):
            self.refused(store, TooMany, lambda: store.do(deed), 200)
        # These go ahead.
        self.refused(store, TooMany, lambda: store.do(("put", (40, 5, 5))), 40)
        self.refused(store, NoCard, lambda: store.do(("put", (40, 5, "5"))))
        self.refused(store, NoKey, lambda: store.do(("take", 40)), 40)
        self.refused(store, NoKey, lambda: store.do(("move", 40, 1)), 40)
        store.go(0)
        self.refused(store, TooMany, lambda: store.do(("put", (1, 1, 1))), 200)
        self.refused(store, NoKey, lambda: store.do(("take", 1)), 1)
        store.go(199)
        store.back()
        self.assertEqual(store.now(), 198)

    def test_no_card_goes_ahead_of_too_many_cards(self):
        store = full(40)
        self.refused(store, NoCard, lambda: store.do(("put", (40, 1, None))))
        self.refused(store, NoCard, lambda: store.do(("put", None)))

    def test_no_number(self):
        for store in (Store(), full(3)):
            for version in (store.many(), store.many() + 1, -1, -2, 10 ** 59, -(10 ** 59)):
                for ask in (store.go, store.cards, store.tree, store.forebear, store.deed):
                    self.refused(store, NoNumber, lambda: ask(version), version)

    def test_no_back(self):
        store = Store()
        self.refused(store, NoBack, store.back)
        store.do(("put", (1, 1, 1)))
        store.back()
        self.refused(store, NoBack, store.back)


class Own(unittest.TestCase):
    def test_lists_are_the_askers_own(self):
        store = full(4)
        kept = whole(store)
        for version in range(5):
            told = store.cards(version)
            self.assertIs(type(told), list)
            told.append(None)
            told[0] = None
        self.assertEqual(whole(store), kept)
        self.assertEqual(whole(store), kept)

    def test_what_is_handed_in_stays(self):
        store = Store()
        for deed in (("put", (5, 1, 10)), ("raise", 0, 9, 5), ("move", 5, 3), ("take", 5)):
            handed = frozen(deed)
            store.do(deed)
            self.assertEqual(frozen(deed), handed)

    def test_stores_share_nothing(self):
        one, other = Store(), Store()
        one.do(("put", (5, 1, 10)))
        self.assertEqual((other.many(), other.now(), other.cards(0)), (1, 0, []))
        self.assertEqual(done_plainly({}, ("put", (5, 1, 10))), {5: one.cards(1)[0]})


if __name__ == "__main__":
    unittest.main()
