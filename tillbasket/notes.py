"""Offers as texts, and the bill of a basket."""

from tillbasket.checks import is_name
from tillbasket.errors import NoOffer
from tillbasket.offers import PARTS, deals, holds, names_in
from tillbasket.paying import paid

# No number of an offer is beyond 100000, and Python itself reads no text of very many figures.
MOST_FIGURES = 6


def shown(offer):
    """What is written for an offer."""
    if offer[0] != "set":
        return " ".join([str(part) for part in offer])
    _, wants, price = offer
    pairs = " ".join([f"{name} {many}" for name, many in wants])
    return f"set {pairs} at {price}"


def number_in(word):
    """The number that a word writes, or None where it writes none."""
    if not 1 <= len(word) <= MOST_FIGURES or not all("0" <= sign <= "9" for sign in word):
        return None
    if word[0] == "0" and word != "0":
        return None
    return int(word)


def set_in(words):
    """The set that the words may write, or None where their number or the "at" is wrong."""
    # The "at" is looked for from the end, as a kind may have this name.
    if len(words) < 3 or words[-2] != "at" or len(words) % 2 == 0:
        return None
    pairs = words[1:-2]
    wants = [(name, number_in(many)) for name, many in zip(pairs[::2], pairs[1::2])]
    return "set", tuple(wants), number_in(words[-1])


def offer_in(words):
    """The offer that the words may write, its names and numbers not looked at, or None."""
    first = words[0]
    if first == "set":
        return set_in(words)
    if first not in PARTS or len(words) != PARTS[first]:
        return None
    if first == "more":
        return first, words[1], number_in(words[2]), number_in(words[3])
    if first == "share":
        return first, words[1], number_in(words[2])
    return first, words[1], words[2], number_in(words[3])


def read(line):
    """The offer for which this text is written."""
    if not isinstance(line, str):
        raise NoOffer("what is read is a text")
    offer = offer_in(line.split(" "))
    if offer is None:
        raise NoOffer("an offer is written by its words with one blank between")
    if not all(is_name(name) for name in names_in(offer)):
        raise NoOffer("a name is 1 to 8 signs from a to z")
    if not holds(offer):
        raise NoOffer("an offer has its numbers within their bounds, and each kind once")
    return offer


def billed(shop, offers, basket):
    """The bill of a basket: a text for each deal that is used, and the sum."""
    least, way = paid(shop, offers, basket)
    words = shop.names + [shown(offer) for offer in offers]
    prices = [price for _, price in deals(shop, offers)]
    used = [f"{often} x {told}: {often * price}" for often, told, price in zip(way, words, prices) if often > 0]
    return used + [f"sum: {least}"]
