import unittest

from crestkeys.errors import NoText
from crestkeys.shapes import is_shape
from crestkeys.texts import cards_read, cards_text, order_read, row_text, shape_read, tree_read, tree_text
from tests.making import (GREATEST, all_orders, all_trees, any_tree, chain_left, chain_right, dice, frozen, odd_things,
                          plain, rising, sample_trees, some_cards, some_order, some_shape, with_worths, zigzag)

READERS = (cards_read, tree_read, order_read, shape_read)
# What is written for no number, by its signs.
NO_NUMBERS = ("", "-", "+", "+1", "-0", "00", "01", "-01", "000", "--1", "1-", "1.", "1.0", "1e3", "0x1", "1_0", " 1",
              "1 ", "\t1", "1\n", "\n", "one", "None", "True", "1,", "\u0663", "\u00b2", "\uff11", "\u22121", "1\u00a0",
              "9" * 61, "1" + "0" * 60, "-" + "9" * 61, "9" * 5000)


class Reading(unittest.TestCase):
    def refused(self, ask, thing):
        for _ in range(2):
            with self.assertRaises(NoText, msg=repr(thing)) as caught:
                ask(thing)
            self.assertEqual(vars(caught.exception), {})


class Cards(Reading):
    def test_told(self):
        self.assertEqual(cards_text([]), "none")
        self.assertEqual(cards_text(()), "none")
        self.assertEqual(cards_text([(3, 5, -7)]), "3:5:-7")
        self.assertEqual(cards_text([(0, 0, 0), (3, 5, -7), (10, 1, 2)]), "0:0:0 3:5:-7 10:1:2")
        self.assertEqual(cards_read("none"), [])
        self.assertEqual(cards_read("0:0:0 3:5:-7 10:1:2"), [(0, 0, 0), (3, 5, -7), (10, 1, 2)])

    def test_there_and_back(self):
        rng = dice(201)
        packs = [rising(some_cards(rng, many)) for many in (0, 1, 2, 3, 10, 40, 63, 64) for _ in range(4)]
        packs.append([(0, GREATEST, -GREATEST), (GREATEST, 0, GREATEST)])
        for pack in packs:
            kept = frozen(pack)
            text = cards_text(pack)
            self.assertEqual(text, " ".join(":".join(map(str, card)) for card in pack) or "none")
            told = cards_read(text)
            self.assertEqual(told, pack)
            self.assertEqual((type(text), type(told), {type(card) for card in told} <= {tuple}), (str, list, True))
            told.append(None)
            self.assertEqual(cards_read(text), pack)
            self.assertEqual(frozen(pack), kept)

    def test_worths_beyond_bounds_are_written_and_not_read(self):
        for worth in (GREATEST + 1, -GREATEST - 1, 10 ** 59, -(10 ** 59), 10 ** 80):
            self.assertEqual(cards_text([(1, 2, worth)]), f"1:2:{worth}")
            self.refused(cards_read, f"1:2:{worth}")

    def test_bounds(self):
        for text in ("-1:2:3", "1:-2:3", f"{GREATEST + 1}:2:3", f"1:{GREATEST + 1}:3", f"1:2:{GREATEST + 1}",
                     f"1:2:-{GREATEST + 1}"):
            self.refused(cards_read, text)
            self.refused(cards_read, "0:0:0 " + text)

    def test_noughts_and_signs_and_figures(self):
        for word in NO_NUMBERS:
            for text in (f"{word}:2:3", f"1:{word}:3", f"1:2:{word}"):
                self.refused(cards_read, text)
                self.refused(cards_read, f"0:1:1 {text}")
                self.refused(cards_read, f"{text} 77:1:1")
        for word in ("9" * 60, "-" + "9" * 60):
            self.refused(cards_read, f"1:2:{word}")

    def test_not_rising(self):
        for text in ("2:1:1 1:1:1", "1:1:1 1:1:1", "1:1:1 1:2:2", "1:1:1 3:1:1 2:1:1", "1:1:1 2:1:1 2:1:1"):
            self.refused(cards_read, text)

    def test_how_many(self):
        for many in (63, 64):
            self.assertEqual(cards_read(cards_text(rising(plain(many)))), rising(plain(many)))
        for many in (65, 66, 200):
            self.refused(cards_read, cards_text(rising(plain(many))))

    def test_forms(self):
        for text in ("", " ", "None", "NONE", "none none", " none", "none ", "none 1:2:3", "1:2:3 none", "none\n", ".",
                     "1:2:3 ", " 1:2:3", "1:2:3  4:5:6", "1:2:3\t4:5:6", "1:2:3\n4:5:6", "1:2:3,4:5:6", "1:2:3;4:5:6",
                     "1:2", "1:2:3:4", "1::3", ":2:3", "1:2:", "::", ":", "1", "1 2 3", "1: 2:3", "1 :2:3", "(1:2:3)",
                     "1:2:3\u00a04:5:6", "1:2:3 4:5:6 "):
            self.refused(cards_read, text)

    def test_what_is_no_text(self):
        things = [thing for thing in odd_things() if not isinstance(thing, str)]
        for thing in things + [[(1, 2, 3)], ("1:2:3",), ["1:2:3"], (1, 2, 3), (0, 1), [0, 1], ((), (1, 2, 3), ())]:
            for ask in READERS:
                handed = frozen(thing)
                self.refused(ask, thing)
                self.assertEqual(frozen(thing), handed)


class Trees(Reading):
    def test_told(self):
        self.assertEqual(tree_text(()), ".")
        self.assertEqual(tree_text(((), (3, 5, -7), ())), "(. 3:5:-7 .)")
        tree = (((), (1, 9, 0), ()), (2, 1, 1), ((), (4, 4, 4), ()))
        self.assertEqual(tree_text(tree), "((. 1:9:0 .) 2:1:1 (. 4:4:4 .))")
        self.assertEqual(tree_read("((. 1:9:0 .) 2:1:1 (. 4:4:4 .))"), tree)
        self.assertEqual(tree_read("."), ())

    def test_there_and_back(self):
        rng = dice(202)
        trees = [tree for many in range(6) for tree in all_trees(plain(many))] + sample_trees(203, 20)
        trees += [any_tree(rng, some_cards(rng, many)) for many in (63, 64)]
        for tree in trees:
            text = tree_text(tree)
            self.assertEqual(text, self.plainly(tree))
            self.assertEqual(tree_read(text), tree)
            self.assertEqual(type(text), str)

    def plainly(self, tree):
        return "(" + " ".join([self.plainly(tree[0]), ":".join(map(str, tree[1])), self.plainly(tree[2])]) + ")" \
            if tree else "."

    def test_how_many(self):
        for made in (chain_left, chain_right, zigzag):
            for many in (63, 64):
                tree = made(plain(many))
                self.assertEqual(tree_read(tree_text(tree)), tree)
            for many in (65, 66, 150):
                self.refused(tree_read, tree_text(made(plain(many))))

    def test_trees_that_are_none(self):
        one, two = "(. 1:2:3 .)", "(. 2:2:3 .)"
        for text in (f"({two} 1:1:1 .)", f"(. 2:1:1 {one})", f"({one} 1:1:1 .)", f"(. 1:1:1 {one})",
                     f"({one} 2:1:1 {two})", f"({two} 3:1:1 {one})", f"(({one} 5:5:5 .) 4:9:9 .)",
                     f"(. 3:9:9 (. 5:5:5 {two}))"):
            self.refused(tree_read, text)

    def test_cards_in_them(self):
        for worth in (GREATEST + 1, 10 ** 59, 10 ** 80):
            self.assertEqual(tree_text(((), (1, 2, worth), ())), f"(. 1:2:{worth} .)")
        self.assertEqual(tree_read(f"(. 0:{GREATEST}:-{GREATEST} .)"), ((), (0, GREATEST, -GREATEST), ()))
        self.refused(tree_read, tree_text(with_worths(chain_left(plain(3)), 10 ** 30)))
        for card in ("-1:2:3", "1:-2:3", f"{GREATEST + 1}:2:3", f"1:2:{GREATEST + 1}", "1:2", "1:2:3:4", "", "1", ".",
                     "none", "()", "(. 1:2:3 .)", "1::3"):
            self.refused(tree_read, f"(. {card} .)")
        for word in NO_NUMBERS:
            for card in (f"{word}:2:3", f"1:{word}:3", f"1:2:{word}"):
                self.refused(tree_read, f"(. {card} .)")
                self.refused(tree_read, f"(. 0:1:1 (. {card} .))")

    def test_forms(self):
        for text in ("", " ", "none", "()", "(", ")", "..", ". .", " .", ". ", ".\n", "(.)", "(. .)", "(. 1:2:3)",
                     "(1:2:3 .)", "(1:2:3)", "1:2:3", "(. 1:2:3 . )", "( . 1:2:3 .)", "(.  1:2:3 .)", "(. 1:2:3  .)",
                     "(. 1:2:3 .) ", " (. 1:2:3 .)", "(. 1:2:3 .", ". 1:2:3 .)", "(. 1:2:3 .))", "((. 1:2:3 .)",
                     "((. 1:2:3 .))", "(. 1:2:3 .)(. 2:2:3 .)", "(. 1:2:3 .) (. 2:2:3 .)", "(.\t1:2:3 .)", "(.\n1:2:3 .)",
                     "[. 1:2:3 .]", "(.1:2:3.)", "(. 1:2:3 (. 2:2:3 .) .)", "(() 1:2:3 ())", "(. 1:2:3 none)",
                     "(- 1:2:3 -)", "(. 1:2:3. )", "(. 1:2:3 .).", "(. (. 1:2:3 .) .)", "(, 1:2:3 .)"):
            self.refused(tree_read, text)

    def test_each_sign_otherwise(self):
        good = "((. 1:9:0 .) 2:1:-1 (. 4:4:4 .))"
        tree = tree_read(good)
        for at, sign in enumerate(good):
            for other in ("", " ", "(", ")", ".", ":", "-", "5", "0", "x", sign + sign):
                text = good[:at] + other + good[at + 1:]
                try:
                    told = tree_read(text)
                except NoText:
                    continue
                self.assertEqual(tree_text(told), text)
                self.assertEqual(told == tree, text == good)

    def test_far_too_deep(self):
        for many in (64, 65, 1000, 100000):
            for text in ("(" * many, "(" * many + ". 1:2:3 .)", "(" * many + "." + " 1:2:3 .)" * many, ")" * many,
                         "(. 1:2:3 " * many, "." * many):
                self.refused(tree_read, text)


class Rows(Reading):
    def test_told(self):
        self.assertEqual(row_text(()), "none")
        self.assertEqual(row_text((2, 0, 1)), "2 0 1")
        self.assertEqual(row_text((0,)), "0")
        self.assertEqual((order_read("none"), shape_read("none")), ((), ()))
        self.assertEqual(order_read("1 2 0"), (1, 2, 0))
        self.assertEqual(shape_read("1 0 2"), (1, 0, 2))

    def test_there_and_back(self):
        rng = dice(204)
        orders = [order for many in range(6) for order in all_orders(many)]
        orders += [some_order(rng, many) for many in (20, 39, 40) for _ in range(5)]
        orders += [some_shape(rng, many) for many in (20, 39, 40) for _ in range(5)]
        for order in orders:
            text = row_text(order)
            self.assertEqual(text, " ".join(map(str, order)) or "none")
            told = order_read(text)
            self.assertEqual((told, type(told), type(text)), (order, tuple, str))
            if is_shape(order):
                self.assertEqual(shape_read(text), order)
            else:
                self.refused(shape_read, text)

    def test_how_many(self):
        for many in (39, 40):
            order = tuple(range(many))
            self.assertEqual((order_read(row_text(order)), shape_read(row_text(order))), (order, order))
        for many in (41, 42, 200):
            for order in (tuple(range(many)), tuple(range(many))[::-1]):
                self.refused(order_read, row_text(order))
                self.refused(shape_read, row_text(order))

    def test_what_is_none(self):
        for text in ("", " ", "1", "-1", "0 0", "0 2", "1 2", "0 1 1", "0 1 3", "0  1", "0 1 ", " 0 1", "0\t1", "0\n1", "0,1",
                     "none ", " none", "none none", "0 none", "none 0", "None", "(0, 1)", "[0]", "0:1", ".", "-0", "0 -1",
                     "0 1\n", "0 " + "9" * 60, "0 " + "9" * 61, "0;1"):
            self.refused(order_read, text)
            self.refused(shape_read, text)
        for word in NO_NUMBERS:
            for text in (word, f"0 {word}", f"{word} 0", f"0 {word} 2"):
                self.refused(order_read, text)
                self.refused(shape_read, text)


if __name__ == "__main__":
    unittest.main()
