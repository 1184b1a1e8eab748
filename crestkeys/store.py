"""A store: versions of a set of cards, each made of its forebear by a deed."""

from crestkeys.cards import is_card
from crestkeys.crests import crest_of
from crestkeys.errors import NoBack, NoCard, NoKey, NoNumber, TooMany
from crestkeys.packs import by_keys

MOST_STORED = 40
MOST_VERSIONS = 200


def with_put(cards, card):
    """The cards with one put among them, in the place of one with its key; NoCard, then TooMany."""
    if not is_card(card):
        raise NoCard()
    others = [other for other in cards if other[0] != card[0]]
    if len(others) >= MOST_STORED:
        raise TooMany(MOST_STORED)
    return by_keys(others + [card])


def check_key(cards, key):
    """Refuses a key that no card has."""
    if not any([card[0] == key for card in cards]):
        raise NoKey(key)


def with_taken(cards, key):
    """The cards without the one with the key; NoKey."""
    check_key(cards, key)
    return [card for card in cards if card[0] != key]


def with_moved(cards, key, rank):
    """The cards with another rank of the one with the key; NoKey."""
    check_key(cards, key)
    return [(key, rank, card[2]) if card[0] == key else card for card in cards]


def with_raised(cards, low, high, more):
    """The cards with the worths of those with keys from low to high greater by more."""
    return [(card[0], card[1], card[2] + more) if low <= card[0] <= high else card for card in cards]


def cards_behind(cards, deed):
    """The cards, by rising keys, behind a deed; NoCard, TooMany or NoKey."""
    if deed[0] == "put":
        return with_put(cards, deed[1])
    if deed[0] == "take":
        return with_taken(cards, deed[1])
    if deed[0] == "move":
        return with_moved(cards, deed[1], deed[2])
    return with_raised(cards, deed[1], deed[2], deed[3])


class Store:
    """Versions, numbered from 0, at one of which it stands."""

    def __init__(self):
        # Of each version its forebear, the deed that made it, and its cards by rising keys.
        self.rows = [(None, None, ())]
        self.standing = 0

    def row_of(self, version):
        """What is kept of the version; NoNumber."""
        if not 0 <= version < len(self.rows):
            raise NoNumber(version)
        return self.rows[version]

    def do(self, deed):
        """Makes the next version by a deed and tells its number; NoCard, TooMany or NoKey."""
        cards = cards_behind(self.cards(self.standing), deed)
        if len(self.rows) >= MOST_VERSIONS:
            raise TooMany(MOST_VERSIONS)
        self.rows.append((self.standing, tuple(deed), tuple(cards)))
        self.standing = len(self.rows) - 1
        return self.standing

    def go(self, version):
        """Goes to the version; NoNumber."""
        self.row_of(version)
        self.standing = version

    def back(self):
        """Goes back to the forebear; NoBack at 0."""
        if self.standing == 0:
            raise NoBack()
        self.standing = self.forebear(self.standing)

    def now(self):
        """The version at which it stands."""
        return self.standing

    def many(self):
        """How many versions there are."""
        return len(self.rows)

    def cards(self, version):
        """A list of the version's cards by rising keys; NoNumber."""
        return list(self.row_of(version)[2])

    def tree(self, version):
        """The crest of the version's cards; NoNumber."""
        return crest_of(self.cards(version))

    def forebear(self, version):
        """The version of which it was made, None of 0; NoNumber."""
        return self.row_of(version)[0]

    def deed(self, version):
        """The deed that made the version, None of 0; NoNumber."""
        return self.row_of(version)[1]
