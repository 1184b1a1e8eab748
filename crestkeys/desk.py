"""A desk: a store that is told rows of words and answers texts."""

from crestkeys.cards import is_from
from crestkeys.crests import road
from crestkeys.errors import NoRow
from crestkeys.store import Store
from crestkeys.texts import card_in, card_text, cards_text, number_in, row_text, tree_text
from crestkeys.versions import differing, merged, new_in, steps

# What stands behind the first word of a row, word by word; a rank is bound as a key is.
FORMS = {
    "put": ("card",),
    "take": ("key",),
    "move": ("key", "key"),
    "raise": ("number", "number", "number"),
    "go": ("number",),
    "back": (),
    "now": (),
    "cards": ("number",),
    "merge": ("number", "number"),
    "tree": ("number",),
    "road": ("number", "key"),
    "new": ("number", "number"),
    "steps": ("number", "number"),
    "differ": ("number", "number"),
}


def value_of(form, word):
    """What a word of the form tells; None where it is not so written or beyond its bounds."""
    if form == "card":
        return card_in(word)
    number = number_in(word)
    if form == "key" and not is_from(number, 0):
        return None
    return number


def row_read(row):
    """The first word of a row, and the list of what the others tell; NoRow."""
    if not isinstance(row, str):
        raise NoRow()
    word, *rest = row.split(" ")
    if word not in FORMS or len(rest) != len(FORMS[word]):
        raise NoRow()
    values = [value_of(form, told) for form, told in zip(FORMS[word], rest)]
    if None in values:
        raise NoRow()
    return (word, values)


def listed(texts):
    """Texts with "; " between two, or "none"."""
    if len(texts) == 0:
        return "none"
    return "; ".join(texts)


def step_text(step):
    """The words of a step."""
    if step[0] == "put":
        return f"put {card_text(step[1])}"
    return " ".join([str(part) for part in step])


def card_or_none(card):
    """A card as a text, "-" for None."""
    if card is None:
        return "-"
    return card_text(card)


def say_deed(store, word, values):
    """Does a deed and tells the version."""
    return str(store.do(tuple([word] + values)))


def say_go(store, word, values):
    """Goes to a version."""
    store.go(values[0])
    return "ok"


def say_back(store, word, values):
    """Goes back."""
    store.back()
    return "ok"


def say_now(store, word, values):
    """Tells the version at which the store stands."""
    return str(store.now())


def say_cards(store, word, values):
    """Tells a version's cards."""
    return cards_text(store.cards(values[0]))


def say_merge(store, word, values):
    """Tells the cards of two versions merged."""
    return cards_text(merged(store, values[0], values[1]))


def say_tree(store, word, values):
    """Tells a version's tree."""
    return tree_text(store.tree(values[0]))


def say_road(store, word, values):
    """Tells the road to a key in a version's tree."""
    return row_text(road(store.tree(values[0]), values[1]))


def say_new(store, word, values):
    """Tells the keys that are new in one version against another one."""
    return row_text(new_in(store, values[0], values[1]))


def say_steps(store, word, values):
    """Tells the steps from one version to another one."""
    return listed([step_text(step) for step in steps(store, values[0], values[1])])


def say_differ(store, word, values):
    """Tells in which keys two versions differ."""
    rows = differing(store, values[0], values[1])
    return listed([f"{key} {card_or_none(card)} {card_or_none(beside)}" for key, card, beside in rows])


ANSWERS = {
    "put": say_deed,
    "take": say_deed,
    "move": say_deed,
    "raise": say_deed,
    "go": say_go,
    "back": say_back,
    "now": say_now,
    "cards": say_cards,
    "merge": say_merge,
    "tree": say_tree,
    "road": say_road,
    "new": say_new,
    "steps": say_steps,
    "differ": say_differ,
}


class Desk:
    """A store, asked by rows of words."""

    def __init__(self):
        self.store = Store()

    def say(self, row):
        """The answer to a row of words; NoRow, then as the store and its versions refuse."""
        word, values = row_read(row)
        answer = ANSWERS[word]
        return answer(self.store, word, values)
