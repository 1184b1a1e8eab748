"""The names of the interface that have landed, with their arguments, by their places."""

import importlib
import inspect
import unittest

FUNCTIONS = {
    "cards": ("is_card(thing)", "outranks(one, other)"),
    "packs": ("checked(cards)", "by_keys(pack)", "by_ranks(pack)", "order_of(pack)", "pack_of(order, keys)"),
    "trees": ("is_tree(thing)", "is_crest(thing)", "fault(branching)", "cards_in(branching)"),
    "crests": ("crest_of(pack)", "road(tree, key)", "holds(tree, key)", "card_at(tree, key)", "part_at(tree, key)",
               "top_within(tree, low, high)"),
    "turns": ("turned(tree, key)", "turned_by(tree, row)", "leafed(tree, card)"),
    "seams": ("seam(tree, key)", "edges(tree)", "put_in(crest, card)", "take_out(crest, key)"),
    "chains": ("to_chain(tree)", "turns_between(one, other)", "turns_bound(one, other)", "leads(one, row, other)"),
    "splits": ("split(crest, key)", "joined(one, other)", "cut(crest, low, high)"),
    "links": ("links(tree)", "split_road(crest, key)", "split_links(crest, key)"),
    "places": ("size(tree)", "place_of(tree, key)", "sum_within(tree, low, high)", "at_place(tree, place)"),
    "sums": ("sums_of(tree)", "sums_fault(tree, sums)"),
    "reaching": ("reached(tree, amount)", "reach_road(tree, amount)", "richest(tree)", "tiles(tree, low, high)"),
    "changes": ("raised(tree, low, high, amount)", "ranked(crest, key, rank)"),
    "sets": ("together(one, other)", "shared(one, other)", "without(one, other)", "differ(one, other)"),
    "mixed": ("letters(one, other)", "runs(one, other)", "pure_parts(one, other)", "mixed_in(one, other)",
              "mixed_share(row, k)", "mixed_mean(row)"),
    "shapes": ("is_order(thing)", "is_shape(thing)", "shape_of(order)", "shape_in(tree)", "parts_of(shape)",
               "height_of(shape)", "mirrored(shape)"),
    "shapecounts": ("shape_count(n)", "shapes_high(n, h)", "shape_at(n, number)", "shape_number(shape)",
                    "orders_many(shape)"),
    "orders": ("order_at(shape, number)", "order_number(order)", "come_at(shape, place)",
               "ahead_many(shape, one, other)"),
    "exchanges": ("exchanged(order, k)", "exchanged_by(order, row)", "unlike_pairs(one, other)",
                  "exchanges(one, other)", "led(one, other)", "led_right(one, other, thing)"),
    "mixers": ("is_mixer(thing)", "rank_by(mixer, key)", "deals(mixer, pairs)", "mixers_many(prime, many, pairs)",
               "mixer_at(prime, many, pairs, number)", "mixer_number(mixer, pairs)",
               "falling_many(prime, many, keys)", "topping_many(prime, many, keys, key)"),
    "facts": ("order_by(n, facts)", "shows_order(n, facts, thing)", "orders_many(n, facts)"),
    "histories": ("looks_at(history, way)", "seen_by(history, way, order)", "rows_seen(history, way)",
                  "held(one, other, way)", "shape_share(shape)"),
    "watches": ("ends_many(watch)", "end_way(watch, way, end)", "end_share(watch, way, end)",
                "end_tells(watch, way, end)", "last_seen(watch, way)", "parted(one, other, way)",
                "walked(watch, way, order)"),
    "shares": ("above_share(n, i, some)", "part_share(n, low, high)", "part_sizes(n, i)", "seam_share(n, i, j)",
               "mean_depth(n, i)", "mean_seam(n, i)", "mean_turns(history)"),
    "depths": ("depth_counts(a, b)", "depth_table(left, right)", "table_holds(left, right, thing)", "gap_sums(n)",
               "crowd(n)"),
    "heights": ("heights(n, h)", "heights_hold(n, h, thing)"),
    "bounds": ("least_height(n, p)", "height_by_crowd(n, p)", "height_by_factor(n, p, x)", "paper_for(n, h, p)",
               "shows_low(n, h, p, thing)"),
    "versions": ("both_come_of(store, one, other)", "steps(store, one, other)", "differing(store, one, other)",
                 "merged(store, one, other)", "new_in(store, one, other)"),
    "texts": ("cards_text(cards)", "tree_text(tree)", "row_text(row)", "cards_read(thing)", "tree_read(thing)",
              "order_read(thing)", "shape_read(thing)"),
}
METHODS = {
    ("store", "Store"): ("do(self, deed)", "go(self, version)", "back(self)", "now(self)", "many(self)",
                         "cards(self, version)", "tree(self, version)", "forebear(self, version)",
                         "deed(self, version)"),
    ("desk", "Desk"): ("say(self, row)",),
}


class Interface(unittest.TestCase):
    def test_all_is_there(self):
        for module, rows in FUNCTIONS.items():
            loaded = importlib.import_module("crestkeys." + module)
            for row in rows:
                name = row.partition("(")[0]
                function = getattr(loaded, name)
                self.assertEqual(name + str(inspect.signature(function)), row)
                self.assertEqual(function.__module__, "crestkeys." + module)

    def test_classes_have_their_methods_themselves(self):
        for (module, name), rows in METHODS.items():
            kind = getattr(importlib.import_module("crestkeys." + module), name)
            self.assertEqual((kind.__module__, kind.__bases__), ("crestkeys." + module, (object,)))
            self.assertEqual(str(inspect.signature(kind)), "()")
            for row in rows:
                method = row.partition("(")[0]
                self.assertEqual(method + str(inspect.signature(vars(kind)[method])), row)


if __name__ == "__main__":
    unittest.main()
