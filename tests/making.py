"""Cards and trees for the tests, made in ways of their own: nothing here uses the program."""

import itertools
import random

GREATEST = 10 ** 18


def dice(seed):
    return random.Random(seed)


def some_cards(rng, many, ranks=None, most_key=None):
    """A pack in a row of chance; few ranks make many like ones."""
    keys = rng.sample(range((most_key or many * 3) + 1), many)
    return [(key, rng.randint(0, ranks or many), rng.randint(-9, 9)) for key in keys]


def rising(cards):
    return sorted(cards, key=lambda card: card[0])


def better(one, other):
    return (-one[1], one[0]) < (-other[1], other[0])


def any_tree(rng, cards):
    """A tree of the cards with tops of chance."""
    cards = rising(cards)
    if not cards:
        return ()
    at = rng.randrange(len(cards))
    return (any_tree(rng, cards[:at]), cards[at], any_tree(rng, cards[at + 1:]))


def all_trees(cards):
    """All trees of cards that are listed by rising keys."""
    if not cards:
        return [()]
    return [(left, card, right)
            for at, card in enumerate(cards)
            for left in all_trees(cards[:at])
            for right in all_trees(cards[at + 1:])]


def chain_right(cards):
    tree = ()
    for card in reversed(rising(cards)):
        tree = ((), card, tree)
    return tree


def chain_left(cards):
    tree = ()
    for card in rising(cards):
        tree = (tree, card, ())
    return tree


def zigzag(cards):
    """A chain whose sides change with each card."""
    cards = rising(cards)
    if not cards:
        return ()
    return ((), cards[0], zigzag_left(cards[1:]))


def zigzag_left(cards):
    if not cards:
        return ()
    return (zigzag(cards[:-1]), cards[-1], ())


def plain(many):
    return [(key, many - key, key) for key in range(many)]


def nodes(tree):
    """(left, card, right, upper card or None) of each part, from the left."""
    def walk(part, upper):
        if part == ():
            return []
        left, card, right = part
        return walk(left, card) + [(left, card, right, upper)] + walk(right, card)
    return walk(tree, None)


def flat(tree):
    return [node[1] for node in nodes(tree)]


def crest_by_leafing(cards):
    """The crest, by leafing the cards from the one that outranks all others down."""
    tree = ()
    for card in sorted(cards, key=lambda card: (-card[1], card[0])):
        tree = leafed_plainly(tree, card)
    return tree


def leafed_plainly(tree, card):
    if tree == ():
        return ((), card, ())
    left, top, right = tree
    if card[0] < top[0]:
        return (leafed_plainly(left, card), top, right)
    return (left, top, leafed_plainly(right, card))


def seems_crest(tree):
    cards = flat(tree)
    keys = [card[0] for card in cards]
    return keys == sorted(set(keys)) and not any(
        upper and better(card, upper) for _, card, _, upper in nodes(tree))


def with_worths(tree, worth):
    """The same tree with all worths beyond a card's bounds."""
    if tree == ():
        return ()
    left, card, right = tree
    return (with_worths(left, worth), (card[0], card[1], worth + card[0]), with_worths(right, worth))


def sample_trees(seed=1, times=60):
    """Trees of many sizes: of chance, crests, and chains to either side."""
    rng = dice(seed)
    made = [()]
    for _ in range(times):
        cards = some_cards(rng, rng.choice([1, 2, 3, 5, 8, 13, 30]), ranks=rng.choice([1, 4, 100]))
        made += [any_tree(rng, cards), crest_by_leafing(cards)]
    for many in (1, 2, 7, 64):
        made += [chain_left(plain(many)), chain_right(plain(many)), zigzag(plain(many))]
    made += [any_tree(rng, plain(64)), crest_by_leafing(some_cards(rng, 64))]
    return made


def sample_crests(seed=2, times=60):
    rng = dice(seed)
    made = [()]
    for _ in range(times):
        many = rng.choice([1, 2, 3, 5, 8, 13, 30])
        made.append(crest_by_leafing(some_cards(rng, many, ranks=rng.choice([1, 3, 100]))))
    for many in (63, 64):
        made += [crest_by_leafing(some_cards(rng, many)), crest_by_leafing(plain(many))]
        made.append(crest_by_leafing([(key, key, 0) for key in range(many)]))
    return made


def by_key(tree):
    return {card[0]: card for card in flat(tree)}


def pairs_of_crests(seed, times=80):
    """Two crests, of none to 40 cards each, with few or many keys in common."""
    rng = dice(seed)
    made = [((), ())]
    for _ in range(times):
        most = rng.choice([12, 30, 60])
        one, other = [crest_by_leafing(some_cards(rng, rng.randint(0, min(most, 30)), ranks=rng.choice([1, 4, 50]),
                                                  most_key=most)) for _ in range(2)]
        made += [(one, other), (one, ()), ((), one), (one, one)]
    return made


def keys_about(tree):
    """The keys of a tree, those beside them, and some far off."""
    keys = [card[0] for card in flat(tree)]
    near = {key + more for key in keys for more in (-1, 0, 1)}
    return sorted(near | {-1, 0, -(10 ** 59), GREATEST, GREATEST + 1, 10 ** 59})


def all_turns(tree):
    """(key, tree) of each turn that can be done."""
    if tree == ():
        return []
    left, card, right = tree
    made = []
    if left != ():
        made.append((left[1][0], (left[0], left[1], (left[2], card, right))))
    if right != ():
        made.append((right[1][0], ((left, card, right[0]), right[1], right[2])))
    made += [(key, (other, card, right)) for key, other in all_turns(left)]
    made += [(key, (left, card, other)) for key, other in all_turns(right)]
    return made


def turns_of_chance(rng, many, length):
    """A tree, a row of turns that can be done, and the tree to which it leads."""
    first = tree = any_tree(rng, plain(many))
    row = []
    for _ in range(length):
        key, tree = rng.choice(all_turns(tree))
        row.append(key)
    return first, row, tree


def fewest_turns(tree):
    """For each tree of the same cards the fewest turns that lead there, by going all ways."""
    far = {tree: 0}
    row = [tree]
    for one in row:
        for _, other in all_turns(one):
            if other not in far:
                far[other] = far[one] + 1
                row.append(other)
    return far


def right_edge(tree):
    return [tree[1]] + right_edge(tree[2]) if tree != () else []


def left_edge(tree):
    return [tree[1]] + left_edge(tree[0]) if tree != () else []


def lengths(tree):
    """How long the seam of each key is, and the edges under "left" and "right"."""
    found = {card[0]: len(right_edge(left)) + len(left_edge(right)) for left, card, right, _ in nodes(tree)}
    found["left"] = len(left_edge(tree))
    found["right"] = len(right_edge(tree))
    return found


def frozen(thing):
    """The same thing in lists, so that a change of it would show."""
    return [type(thing).__name__] + [frozen(part) for part in thing] if isinstance(thing, (list, tuple)) else thing


def within_one_another(many, shut):
    """So many lists, or tuples, each in the next one."""
    thing = shut()
    for _ in range(many - 1):
        thing = shut([thing])
    return thing


def odd_things():
    """Things of many kinds that are next to nothing's form."""
    deep = [within_one_another(150, shut) for shut in (tuple, list)]
    return [None, True, False, 0, 1, -1, 10 ** 59, "", "row", "0", [], [0], [()], ((),), (None,), (True,), (False,),
            ("",), ("0",), ([],), ((0,),), ("row",), ("part",), (0, [1]), ([0], 1), *deep]


def tree_by(order):
    """The crest of the order's pack; its keys are the places."""
    return crest_by_leafing([(place, len(order) - at, 0) for at, place in enumerate(order)])


def tops_first(tree):
    """The keys, of each part the top first, then the left part, then the right part."""
    return (tree[1][0],) + tops_first(tree[0]) + tops_first(tree[2]) if tree else ()


def all_orders(many):
    return list(itertools.permutations(range(many)))


def orders_by_shape(many):
    """For each shape, rising, the rising list of all its orders."""
    found = {}
    for order in all_orders(many):
        found.setdefault(tops_first(tree_by(order)), []).append(order)
    return {shape: found[shape] for shape in sorted(found)}


def some_order(rng, many):
    return tuple(rng.sample(range(many), many))


def some_shape(rng, many):
    return tops_first(tree_by(some_order(rng, many)))


def shape_of_keys(stands, order):
    """The shape of the crest of keys, a dict from each to its item, by an order of all items."""
    cards = [(place, len(order) - order.index(stands[key]), 0) for place, key in enumerate(sorted(stands))]
    return tops_first(crest_by_leafing(cards))


def item_by(way, puts, key):
    """The item of a put of the key behind other puts, a list of their keys."""
    if way == "fresh":
        return len(puts)
    first = list(dict.fromkeys(puts + [key]))
    return first.index(key)


def plain_states(history, way):
    """For each deed a dict from each key that stands behind it to its item."""
    states, stands, puts = [], {}, []
    for deed in history:
        if deed[0] == "put":
            stands = {**stands, deed[1]: item_by(way, puts, deed[1])}
            puts.append(deed[1])
        elif deed[0] == "take":
            stands = {key: item for key, item in stands.items() if key != deed[1]}
        states.append(stands)
    return states


def some_history(rng, length, keys, looks=3):
    """A history of chance that can be done; of ten deeds about so many are looks."""
    history, stands = [], set()
    for _ in range(length):
        if rng.randrange(10) < looks:
            history.append(("look",))
            continue
        key = rng.choice(keys)
        history.append(("take" if key in stands else "put", key))
        stands ^= {key}
    return history


def plain_fraction(number):
    """A number of the module fractions as the program tells it."""
    return (number.numerator, number.denominator)


def otherwise(thing):
    """Things that differ from a thing, made of lists, tuples, texts and whole numbers, in one part of it."""
    if isinstance(thing, (list, tuple)):
        shut, turned_about = type(thing), tuple if isinstance(thing, list) else list
        rows = list(thing)
        yield turned_about(rows)
        yield shut(rows + [rows[-1] if rows else 0])
        yield from (shut(rows[:at] + rows[at + 1:]) for at in range(len(rows)))
        yield from (shut(rows[:at] + [rows[at]] + rows[at:]) for at in range(len(rows)))
        yield from (shut(rows[:at] + [rows[at + 1], rows[at]] + rows[at + 2:])
                    for at in range(len(rows) - 1) if frozen(rows[at]) != frozen(rows[at + 1]))
        for at, part in enumerate(rows):
            yield from (shut(rows[:at] + [other] + rows[at + 1:]) for other in otherwise(part))
    elif isinstance(thing, str):
        yield from ("", thing + "s", thing.upper(), thing[:-1], None, (thing,), [thing])
    else:
        yield from (thing + 1, thing - 1, -thing - 1, thing + 10 ** 30, str(thing), None, (thing,), [thing])
        if thing in (0, 1):
            yield bool(thing)


def height_by(tree):
    """How many cards the longest road of the tree has."""
    return 1 + max(height_by(tree[0]), height_by(tree[2])) if tree else 0


def done_plainly(cards, deed):
    """What a store's cards, a dict by their keys, become by a deed that can be done."""
    word, *told = deed
    if word == "put":
        return {**cards, told[0][0]: told[0]}
    if word == "take":
        return {key: card for key, card in cards.items() if key != told[0]}
    if word == "move":
        return {**cards, told[0]: (told[0], told[1], cards[told[0]][2])}
    low, high, more = told
    return {key: (key, card[1], card[2] + (more if low <= key <= high else 0)) for key, card in cards.items()}


def some_deed(rng, keys, most_key=9, ranks=6):
    """A deed of chance that can be done where some keys stand, at most 39."""
    word = rng.choice(["put", "put", "put", "take", "move", "raise"])
    if word == "put" or not keys:
        return ("put", (rng.randint(0, most_key), rng.randint(0, ranks), rng.randint(-3, 3)))
    if word == "raise":
        return ("raise", rng.randint(-2, most_key), rng.randint(-2, most_key), rng.choice([-2, 0, 1, 10 ** 58]))
    key = rng.choice(sorted(keys))
    return ("take", key) if word == "take" else ("move", key, rng.randint(0, ranks))


def grown(rng, store, many, most_key=9):
    """Grows a store by so many deeds, from versions of chance; tells each version's (forebear, deed, cards)."""
    rows = [(None, None, {})]
    for _ in range(many):
        if rng.random() < .4:
            store.go(rng.randrange(len(rows)))
        forebear = store.now()
        deed = some_deed(rng, rows[forebear][2], most_key)
        store.do(deed)
        rows.append((forebear, deed, done_plainly(rows[forebear][2], deed)))
    return rows
