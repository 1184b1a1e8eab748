"""Cards, trees, orders and shapes written as texts, and read again."""

from crestkeys.cards import is_card
from crestkeys.errors import NoText
from crestkeys.packs import MOST_CARDS
from crestkeys.shapes import is_order, is_shape
from crestkeys.trees import is_tree, keys_fault

MOST_FIGURES = 60


def with_blanks(words):
    """The words with a blank between two, or "none"."""
    if len(words) == 0:
        return "none"
    return " ".join(words)


def card_text(card):
    """A card as a text."""
    return f"{card[0]}:{card[1]}:{card[2]}"


def cards_text(cards):
    """Cards by rising keys as a text."""
    return with_blanks([card_text(card) for card in cards])


def tree_text(tree):
    """A tree as a text."""
    if tree == ():
        return "."
    left, card, right = tree
    return f"({tree_text(left)} {card_text(card)} {tree_text(right)})"


def row_text(row):
    """An order, a shape or another row of numbers as a text."""
    return with_blanks([str(number) for number in row])


def number_in(word):
    """The number that a word is written for, or None."""
    figures = word.removeprefix("-")
    # Other signs than 0 to 9 may be figures, too, for Python.
    if not figures.isascii() or not figures.isdigit() or len(figures) > MOST_FIGURES:
        return None
    number = int(word)
    # Noughts ahead, and a sign ahead of 0, are lost on the way there and back.
    return number if str(number) == word else None


def card_in(word):
    """The card that a word is written for, or None."""
    card = tuple([number_in(part) for part in word.split(":")])
    return card if is_card(card) else None


def words_in(thing):
    """A list of the words of a text in which there is a blank between two; NoText of what is no text."""
    if not isinstance(thing, str):
        raise NoText()
    if thing == "none":
        return []
    return thing.split(" ")


def cards_read(thing):
    """The pack that a text, or whatever it is, is written for; NoText."""
    cards = [card_in(word) for word in words_in(thing)]
    if None in cards or len(cards) > MOST_CARDS or keys_fault(cards) is not None:
        raise NoText()
    return cards


def behind(text, at, sign):
    """The place behind a sign that stands at the place; NoText."""
    if not text.startswith(sign, at):
        raise NoText()
    return at + len(sign)


def card_from(text, at):
    """The card, or None, that is written at the place, up to a blank, and the place behind it."""
    word = text[at:].partition(" ")[0]
    return (card_in(word), at + len(word))


def branching_from(text, at):
    """The branching, perhaps with None for cards, that is written at the place, and the place behind it; NoText."""
    if text.startswith(".", at):
        return ((), at + 1)
    left, at = branching_from(text, behind(text, at, "("))
    card, at = card_from(text, behind(text, at, " "))
    right, at = branching_from(text, behind(text, at, " "))
    return ((left, card, right), behind(text, at, ")"))


def tree_read(thing):
    """The tree that a text, or whatever it is, is written for; NoText."""
    # What has more cards is left at once, for it may lie too deep to be read.
    if not isinstance(thing, str) or thing.count("(") > MOST_CARDS:
        raise NoText()
    tree, at = branching_from(thing, 0)
    if at != len(thing) or not is_tree(tree):
        raise NoText()
    return tree


def order_read(thing):
    """The order that a text, or whatever it is, is written for; NoText."""
    order = tuple([number_in(word) for word in words_in(thing)])
    if not is_order(order):
        raise NoText()
    return order


def shape_read(thing):
    """The shape that a text, or whatever it is, is written for; NoText."""
    shape = order_read(thing)
    if not is_shape(shape):
        raise NoText()
    return shape
