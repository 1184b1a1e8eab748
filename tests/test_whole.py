"""What the document promises over the whole program, where more than one module has a part in it."""

import os
import pathlib
import subprocess
import sys
import unittest

from crestkeys.changes import raised, ranked
from crestkeys.crests import crest_of
from crestkeys.desk import Desk
from crestkeys.errors import TooMany
from crestkeys.histories import rows_seen, shape_share
from crestkeys.packs import by_keys, checked
from crestkeys.places import size
from crestkeys.seams import put_in, seam, take_out
from crestkeys.sets import differ, shared, together, without
from crestkeys.shapes import shape_in
from crestkeys.splits import cut, joined, split
from crestkeys.store import Store
from crestkeys.texts import cards_read, cards_text, order_read, row_text, shape_read, tree_read, tree_text
from crestkeys.trees import cards_in, fault, is_crest
from crestkeys.turns import leafed, turned_by
from crestkeys.versions import differing, merged, new_in
from crestkeys.watches import last_seen
from tests.making import crest_by_leafing, dice, grown, plain, rising, some_cards, some_deed

ROOT = pathlib.Path(__file__).resolve().parent.parent


class OneCrest(unittest.TestCase):
    """However it comes, one set of cards has one crest."""

    def test_by_all_ways(self):
        rng = dice(221)
        for _ in range(60):
            cards = some_cards(rng, rng.randint(1, 20), ranks=rng.choice([1, 5, 50]))
            due = crest_by_leafing(cards)
            crest = ()
            for card in rng.sample(cards, len(cards)):
                crest, row = put_in(crest, card)
            self.assertEqual(crest, due)
            key = rng.choice(cards)[0]
            card = [one for one in cards if one[0] == key][0]
            smaller, row = take_out(due, key)
            self.assertEqual(put_in(smaller, card)[0], due)
            self.assertEqual(turned_by(leafed(smaller, card), put_in(smaller, card)[1]), due)
            at = rng.randint(-1, 61)
            self.assertEqual(joined(*split(due, at)), due)
            below, within, above = cut(due, at, at + 9)
            self.assertEqual(joined(joined(below, within), above), due)
            some = crest_of(rng.sample(cards, rng.randint(0, len(cards))))
            self.assertEqual(together(some, without(due, some)), due)
            self.assertEqual(together(shared(due, some), due), due)
            other, row = ranked(due, key, rng.randint(0, 60))
            self.assertEqual(ranked(other, key, card[1])[0], due)
            self.assertEqual(raised(raised(due, at, at + 9, 5), at, at + 9, -5), due)
            self.assertEqual(tree_read(tree_text(due)), due)
            self.assertIsNone(fault(due))

    def test_a_store_goes_as_turns_do(self):
        rng = dice(222)
        for _ in range(15):
            store, crest = Store(), ()
            for _ in range(40):
                deed = some_deed(rng, [card[0] for card in cards_in(crest)], 12)
                store.do(deed)
                if deed[0] == "put":
                    if deed[1][0] in [card[0] for card in cards_in(crest)]:
                        crest = take_out(crest, deed[1][0])[0]
                    crest = put_in(crest, deed[1])[0]
                elif deed[0] == "take":
                    crest = take_out(crest, deed[1])[0]
                elif deed[0] == "move":
                    crest = ranked(crest, deed[1], deed[2])[0]
                else:
                    crest = raised(crest, *deed[1:])
                self.assertEqual(store.tree(store.now()), crest)

    def test_as_many_turns_as_the_seam_is_long(self):
        rng = dice(223)
        for _ in range(60):
            crest = crest_by_leafing(some_cards(rng, rng.randint(1, 25)))
            card = rng.choice(cards_in(crest))
            smaller, row = take_out(crest, card[0])
            left, right = seam(crest, card[0])
            self.assertEqual(len(row), len(left) + len(right))
            self.assertEqual(put_in(smaller, card)[1], [card[0]] * len(row))


class ToldAndHandedInAgain(unittest.TestCase):
    def test_merged_cards(self):
        store = Store()
        for first in (0, 40):
            store.go(0)
            for key in range(first, first + 40):
                store.do(("put", (key, key * 7 % 13, 0)))
        cards = merged(store, 40, 80)
        self.assertEqual(len(cards), 80)
        crest = crest_of(cards)
        self.assertEqual((cards_in(crest), by_keys(cards), size(crest)), (cards, cards, 80))
        self.assertEqual(cards_text(cards).count(" "), 79)
        self.assertEqual(tree_text(crest).count("("), 80)
        with self.assertRaises(TooMany):
            checked(cards)

    def test_trees_and_cards_of_versions(self):
        rng = dice(224)
        for _ in range(10):
            store = Store()
            rows = grown(rng, store, 20)
            for one in range(0, len(rows), 2):
                tree, cards = store.tree(one), store.cards(one)
                self.assertEqual((crest_of(cards), cards_in(tree)), (tree, cards))
                for other in range(0, len(rows), 3):
                    beside = store.tree(other)
                    self.assertEqual([row[0] for row in differing(store, one, other)], differ(tree, beside))
                    self.assertEqual(new_in(store, one, other) == [] and size(tree) == size(beside), tree == beside)
                if is_crest(tree):
                    self.assertEqual((tree_read(tree_text(tree)), cards_read(cards_text(cards))), (tree, cards))
                shape = shape_in(tree)
                self.assertEqual((order_read(row_text(shape)), shape_read(row_text(shape))), (shape, shape))

    def test_what_a_desk_tells_it_takes(self):
        rng = dice(225)
        one, other = Desk(), Desk()
        keys = set()
        for _ in range(60):
            deed = some_deed(rng, keys)
            keys |= {deed[1][0]} if deed[0] == "put" else set()
            keys -= {deed[1]} if deed[0] == "take" else set()
            one.say(" ".join(cards_text([part]) if isinstance(part, tuple) else str(part) for part in deed))
        for row in one.say("steps 0 60").split("; "):
            other.say(row)
        for version in range(61):
            self.assertEqual(other.say(f"tree {version}"), one.say(f"tree {version}"))

    def test_one_look_and_a_watch_without_looks_see_alike(self):
        history = [("put", key) for key in (4, 1, 9, 6)] + [("take", 9), ("look",)]
        watch = ("put", 4, ("put", 1, ("put", 9, ("put", 6, ("take", 9, ("end",))))))
        for way in ("kept", "fresh"):
            told = [(row[0], shape_share(row[0])) for row, _ in rows_seen(history, way)]
            self.assertEqual([(shape, share) for _, shape, share in last_seen(watch, way)], told)


class NothingFromOutside(unittest.TestCase):
    def test_the_same_by_any_seed_of_hashes(self):
        code = ("from crestkeys.desk import Desk\n"
                "from crestkeys.facts import order_by\n"
                "from crestkeys.histories import held\n"
                "desk = Desk()\n"
                "for row in ('put 5:1:1', 'put 3:2:2', 'back', 'raise 0 9 1', 'merge 2 3', 'steps 2 3', 'differ 2 3'):\n"
                "    print(desk.say(row))\n"
                "print(order_by(4, [(3, (0, 1), True), (2, (1, 3), False)]))\n"
                "look = [('put', 1), ('put', 2), ('look',)]\n"
                "print(held(look + [('look',)], look + [('take', 1), ('put', 1), ('look',)], 'fresh'))\n")
        told = set()
        for seed in ("0", "1", "77"):
            around = {**os.environ, "PYTHONHASHSEED": seed, "PYTHONPATH": str(ROOT), "PYTHONDONTWRITEBYTECODE": "1"}
            told.add(subprocess.run([sys.executable, "-c", code], env=around, check=True, capture_output=True).stdout)
        self.assertEqual(len(told), 1)

    def test_handed_in_as_lists_or_tuples(self):
        cards = plain(9)
        self.assertEqual(crest_of(tuple(cards)), crest_of(cards))
        self.assertEqual(cards_text(tuple(rising(cards))), cards_text(rising(cards)))
        self.assertEqual(row_text([2, 0, 1]), row_text((2, 0, 1)))


if __name__ == "__main__":
    unittest.main()
