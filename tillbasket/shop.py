"""A shop: its kinds of goods, in an order, and what a piece of each costs."""

from tillbasket.checks import is_name, is_pair, is_whole
from tillbasket.errors import BadKinds, BadName, BadPrice, NoKind, Twice

MOST_KINDS = 5
HIGHEST_PRICE = 100000


def need_kind(kind, names_ahead):
    """Refuse what is no kind, or one whose name stood ahead."""
    if not is_pair(kind) or not is_name(kind[0]):
        raise BadName("a kind is a pair of a name, of 1 to 8 signs from a to z, and a price")
    if kind[0] in names_ahead:
        raise Twice("each kind has another name")
    if not is_whole(kind[1], 0, HIGHEST_PRICE):
        raise BadPrice("a price is a whole number from 0 to 100000")


def need_kinds(kinds):
    """Refuse what are no kinds of a shop."""
    if not isinstance(kinds, list) or not 1 <= len(kinds) <= MOST_KINDS:
        raise BadKinds("a shop has a list of 1 to 5 kinds")
    names_ahead = []
    for kind in kinds:
        need_kind(kind, names_ahead)
        names_ahead.append(kind[0])


class Shop:
    """Kinds of goods, told as pairs of a name and a price."""

    def __init__(self, kinds):
        need_kinds(kinds)
        self.names = [kind[0] for kind in kinds]
        self.prices = [kind[1] for kind in kinds]

    def place(self, name):
        """The place of the kind with this name, from nought."""
        if not isinstance(name, str) or name not in self.names:
            raise NoKind("the shop has no kind of this name")
        return self.names.index(name)
