"""Orders, tuples of the places 0 to n - 1, and the shapes of their trees."""

from crestkeys.cards import is_whole
from crestkeys.errors import NoShape
from crestkeys.places import size

MOST_PLACES = 40


def is_order(thing):
    """True where thing, whatever it is, is an order of at most 40 places."""
    if not isinstance(thing, tuple) or len(thing) > MOST_PLACES:
        return False
    if not all([is_whole(place) for place in thing]):
        return False
    return sorted(thing) == list(range(len(thing)))


def is_shape(thing):
    """True where thing, whatever it is, is an order that is its own shape."""
    return is_order(thing) and shape_of(thing) == thing


def shape_of(order):
    """The places of the order's tree, of each part the top first, then the left part, then the right one."""
    if len(order) == 0:
        return ()
    top = order[0]
    left = [place for place in order if place < top]
    right = [place for place in order if place > top]
    return (top,) + shape_of(left) + shape_of(right)


def shape_from(tree, first):
    """The places of a tree's cards in the row of a shape, counted from first."""
    if tree == ():
        return ()
    left, card, right = tree
    top = first + size(left)
    return (top,) + shape_from(left, first) + shape_from(right, top + 1)


def shape_in(tree):
    """The shape of a tree of cards."""
    return shape_from(tree, 0)


def check_shape(shape):
    """Refuses an order that is no shape."""
    if shape_of(shape) != shape:
        raise NoShape()


def halves(shape):
    """The shapes of the left and the right part of a shape, each counted from 0."""
    top = shape[0]
    return (shape[1:top + 1], tuple([place - top - 1 for place in shape[top + 1:]]))


def parts_from(shape, first):
    """The triples of the parts of a shape, its places counted from first."""
    if shape == ():
        return []
    left, right = halves(shape)
    top = first + shape[0]
    own = (first, first + len(shape) - 1, top)
    return [own] + parts_from(left, first) + parts_from(right, top + 1)


def parts_of(shape):
    """The rising list of triples (low, high, top), one for each part; NoShape."""
    check_shape(shape)
    return sorted(parts_from(shape, 0))


def tops_of(shape):
    """For each part the top, by the pair of its low and high place; NoShape."""
    return {(low, high): top for low, high, top in parts_of(shape)}


def height_beneath(shape):
    """How many places the longest road of a shape has."""
    if shape == ():
        return 0
    left, right = halves(shape)
    return 1 + max(height_beneath(left), height_beneath(right))


def height_of(shape):
    """How many places the longest road of the shape has, the top's own among them; NoShape."""
    check_shape(shape)
    return height_beneath(shape)


def mirrored(shape):
    """The shape in which each place is counted from the other end; NoShape."""
    check_shape(shape)
    return shape_of([len(shape) - 1 - place for place in shape])
