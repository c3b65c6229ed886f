"""Offers, and the deals that they are in a shop."""

from tillbasket.baskets import MOST_PIECES
from tillbasket.checks import is_pair, is_whole
from tillbasket.errors import BadOffer
from tillbasket.shop import HIGHEST_PRICE, MOST_KINDS

PARTS = {"more": 4, "set": 3, "share": 3, "slip": 4}


def is_formed(offer):
    """Tell whether this is a tuple with a first part that is known, and as many parts as that asks for."""
    if not isinstance(offer, tuple) or len(offer) == 0:
        return False
    first = offer[0]
    return isinstance(first, str) and first in PARTS and len(offer) == PARTS[first]


def are_pairs(wants):
    """Tell whether this is a tuple of pairs."""
    return isinstance(wants, tuple) and all(is_pair(pair) for pair in wants)


def names_in(offer):
    """The names in a formed offer, in their order, whether they are names of kinds or not."""
    if offer[0] == "set":
        return [pair[0] for pair in offer[1]] if are_pairs(offer[1]) else []
    if offer[0] == "slip":
        return [offer[1], offer[2]]
    return [offer[1]]


def more_holds(offer):
    """Tell whether the numbers of "more" are as told."""
    _, _, many, paid = offer
    return is_whole(many, 2, MOST_PIECES) and is_whole(paid, 1, many - 1)


def set_holds(offer):
    """Tell whether the wants of "set" are such, with each name once, and its price is one."""
    _, wants, price = offer
    if not are_pairs(wants) or not 1 <= len(wants) <= MOST_KINDS:
        return False
    if not all(is_whole(pair[1], 1, MOST_PIECES) for pair in wants):
        return False
    return len(set(names_in(offer))) == len(wants) and is_whole(price, 0, HIGHEST_PRICE)


def share_holds(offer):
    """Tell whether the hundredths of "share" are as told."""
    return is_whole(offer[2], 1, 100)


def slip_holds(offer):
    """Tell whether what "slip" takes off is as told, and the slip is another kind."""
    _, slip, name, off = offer
    return slip != name and is_whole(off, 1, HIGHEST_PRICE)


HOLDS = {"more": more_holds, "set": set_holds, "share": share_holds, "slip": slip_holds}


def holds(offer):
    """Tell whether all that a formed offer says beside its names is as told; its names are texts."""
    check = HOLDS[offer[0]]
    return check(offer)


def need_offer(shop, offer):
    """Refuse what is no offer of this shop."""
    if not is_formed(offer):
        raise BadOffer("an offer is a tuple of more, set, share or slip and the parts that this asks for")
    for name in names_in(offer):
        shop.place(name)
    if not holds(offer):
        raise BadOffer("an offer has its numbers within their bounds, and each kind once")


def wanted_by(offer):
    """How many pieces an offer wants, by the name of their kind."""
    if offer[0] == "set":
        return dict(offer[1])
    if offer[0] == "more":
        return {offer[1]: offer[2]}
    return {name: 1 for name in names_in(offer)}


def price_of(shop, offer):
    """What the pieces that an offer wants cost together."""
    if offer[0] == "set":
        return offer[2]
    # Of a slip and a kind the kind stands last, and the slip's own price does not count.
    price = shop.prices[shop.place(names_in(offer)[-1])]
    if offer[0] == "more":
        return price * offer[3]
    if offer[0] == "share":
        return price - price * offer[2] // 100
    return max(0, price - offer[3])


def deal_of(shop, offer):
    """The deal that an offer is in a shop."""
    need_offer(shop, offer)
    wanted = wanted_by(offer)
    return tuple([wanted.get(name, 0) for name in shop.names]), price_of(shop, offer)


def plain_deal(shop, place):
    """The deal of one piece of the kind at this place, for its price."""
    return tuple([1 if at == place else 0 for at in range(len(shop.names))]), shop.prices[place]


def deals(shop, offers):
    """The plain deals of a shop, in the order of its kinds, and then those of the offers."""
    plain = [plain_deal(shop, place) for place in range(len(shop.names))]
    return plain + [deal_of(shop, offer) for offer in offers]
