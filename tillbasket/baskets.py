"""Baskets, and the numbers of the baskets within one."""

from tillbasket.checks import is_whole
from tillbasket.errors import BadBasket, TooMany

MOST = 300
MOST_PIECES = 9


def is_basket(shop, basket):
    """Tell whether this is a list with a count for each kind of the shop."""
    if not isinstance(basket, list) or len(basket) != len(shop.names):
        return False
    return all(is_whole(count, 0, MOST_PIECES) for count in basket)


def need_basket(shop, basket):
    """Refuse what is no basket of the shop, or one with too many within."""
    if not is_basket(shop, basket):
        raise BadBasket("a basket is a list of a whole number from 0 to 9 for each kind")
    if within(basket) > MOST:
        raise TooMany("a basket has at most 300 baskets within")


def within(basket):
    """How many baskets are within this one."""
    many = 1
    for count in basket:
        many *= count + 1
    return many


def number_of(basket, inner):
    """The number of a basket within this one."""
    number = 0
    step = 1
    for most, count in zip(basket, inner):
        number += count * step
        step *= most + 1
    return number


def counts_of(basket, number):
    """The basket that has this number within the first one, as a new list."""
    counts = []
    rest = number
    for most in basket:
        counts.append(rest % (most + 1))
        rest //= most + 1
    return counts
