"""The refusals of the program, each a class of its own straight under CrestError."""


class CrestError(ValueError):
    """What all refusals have in common."""


class Twice(CrestError):
    """A key stands on a card that is there already."""

    def __init__(self, key):
        self.key = key


class TooMany(CrestError):
    """There are more things than may be."""

    def __init__(self, most):
        self.most = most


class NoKey(CrestError):
    """No card has the key."""

    def __init__(self, key):
        self.key = key


class NoTurn(CrestError):
    """The top hangs beneath nothing, so there is no turn at its key."""

    def __init__(self, key):
        self.key = key


class OtherCards(CrestError):
    """Two things that must have the same cards have not."""


class Mingled(CrestError):
    """The keys of two crests do not lie one behind the other."""

    def __init__(self, key):
        self.key = key


class NoPlace(CrestError):
    """There is no such place."""

    def __init__(self, place):
        self.place = place


class NoNumber(CrestError):
    """Nothing has the number."""

    def __init__(self, number):
        self.number = number


class NoShape(CrestError):
    """An order is no shape."""


class OneRest(CrestError):
    """The key has the rest of one ahead of it."""

    def __init__(self, key):
        self.key = key


class NoHistory(CrestError):
    """The deed at this place of a history cannot be done."""

    def __init__(self, at):
        self.at = at


class NoWatch(CrestError):
    """The part of a watch with this number is wrong."""

    def __init__(self, at):
        self.at = at


class Clash(CrestError):
    """Two versions changed the key unlike."""

    def __init__(self, key):
        self.key = key


class NoCard(CrestError):
    """A thing is no card."""


class NoBack(CrestError):
    """The first version has no forebear."""


class NoText(CrestError):
    """A thing is not written as it must be."""


class NoRow(CrestError):
    """A desk is told what is none of its rows."""
