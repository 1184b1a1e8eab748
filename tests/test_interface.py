"""The names of the interface that have landed, with their arguments, by their places."""

import importlib
import inspect
import unittest

FUNCTIONS = {
    "cards": ("is_card(thing)", "outranks(one, other)"),
    "packs": ("checked(cards)", "by_keys(pack)", "by_ranks(pack)", "order_of(pack)", "pack_of(order, keys)"),
    "trees": ("is_tree(thing)", "is_crest(thing)", "fault(branching)", "cards_in(branching)"),
    "crests": ("crest_of(pack)", "road(tree, key)", "holds(tree, key)", "card_at(tree, key)", "part_at(tree, key)",
               "top_within(tree, low, high)"),
    "turns": ("turned(tree, key)", "turned_by(tree, row)", "leafed(tree, card)"),
    "seams": ("seam(tree, key)", "edges(tree)", "put_in(crest, card)", "take_out(crest, key)"),
    "chains": ("to_chain(tree)", "turns_between(one, other)", "turns_bound(one, other)", "leads(one, row, other)"),
    "splits": ("split(crest, key)", "joined(one, other)", "cut(crest, low, high)"),
    "links": ("links(tree)", "split_road(crest, key)", "split_links(crest, key)"),
    "places": ("size(tree)", "place_of(tree, key)", "sum_within(tree, low, high)", "at_place(tree, place)"),
    "sums": ("sums_of(tree)", "sums_fault(tree, sums)"),
    "reaching": ("reached(tree, amount)", "reach_road(tree, amount)", "richest(tree)", "tiles(tree, low, high)"),
    "changes": ("raised(tree, low, high, amount)", "ranked(crest, key, rank)"),
    "sets": ("together(one, other)", "shared(one, other)", "without(one, other)", "differ(one, other)"),
    "mixed": ("letters(one, other)", "runs(one, other)", "pure_parts(one, other)", "mixed_in(one, other)",
              "mixed_share(row, k)", "mixed_mean(row)"),
}


class Interface(unittest.TestCase):
    def test_all_is_there(self):
        for module, rows in FUNCTIONS.items():
            loaded = importlib.import_module("crestkeys." + module)
            for row in rows:
                name = row.partition("(")[0]
                function = getattr(loaded, name)
                self.assertEqual(name + str(inspect.signature(function)), row)
                self.assertEqual(function.__module__, "crestkeys." + module)


if __name__ == "__main__":
    unittest.main()
