"""The names of the interface that have landed, with their arguments, by their places."""

import importlib
import inspect
import unittest

FUNCTIONS = {
    "cards": ("is_card(thing)", "outranks(one, other)"),
    "packs": ("checked(cards)", "by_keys(pack)", "by_ranks(pack)", "order_of(pack)", "pack_of(order, keys)"),
    "trees": ("is_tree(thing)", "is_crest(thing)", "fault(branching)", "cards_in(branching)"),
    "crests": ("crest_of(pack)", "road(tree, key)", "holds(tree, key)", "card_at(tree, key)", "part_at(tree, key)",
               "top_within(tree, low, high)"),
    "turns": ("turned(tree, key)", "turned_by(tree, row)", "leafed(tree, card)"),
    "seams": ("seam(tree, key)", "edges(tree)", "put_in(crest, card)", "take_out(crest, key)"),
    "chains": ("to_chain(tree)", "turns_between(one, other)", "turns_bound(one, other)", "leads(one, row, other)"),
    "splits": ("split(crest, key)", "joined(one, other)", "cut(crest, low, high)"),
    "links": ("links(tree)", "split_road(crest, key)", "split_links(crest, key)"),
}


class Interface(unittest.TestCase):
    def test_all_is_there(self):
        for module, rows in FUNCTIONS.items():
            loaded = importlib.import_module("crestkeys." + module)
            for row in rows:
                name = row.partition("(")[0]
                function = getattr(loaded, name)
                self.assertEqual(name + str(inspect.signature(function)), row)
                self.assertEqual(function.__module__, "crestkeys." + module)


if __name__ == "__main__":
    unittest.main()
