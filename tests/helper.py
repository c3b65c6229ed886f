"""What several files of tests use: drawn shops, offers and baskets, and the words of the document by themselves."""

import copy
import itertools
import random
import unittest

from tillbasket.errors import TillError
from tillbasket.shop import Shop

NAMES = ["tea", "cup", "card", "at", "abcdefgh"]

# Wrong as any number of an offer, whatever its bounds are.
NO_NUMBERS = [True, False, None, "2", "", 2.0, 1.5, [2], (2,), b"2", {}]


def fields(shop):
    return list(shop.names), list(shop.prices)


class Asking(unittest.TestCase):

    def assert_refused(self, refusal, function, *handed_in):
        """Just this refusal; a shop that is handed in, and all else, stays as it was."""
        before = [fields(one) if isinstance(one, Shop) else copy.deepcopy(one) for one in handed_in]
        with self.subTest(function=function.__name__, handed_in=handed_in[-2:]):
            with self.assertRaises(TillError) as caught:
                function(*handed_in)
            self.assertIs(type(caught.exception), refusal)
            self.assertEqual([fields(one) if isinstance(one, Shop) else one for one in handed_in], before)


def drawn_shop(draw, kinds):
    return Shop([(name, draw.choice([0, 1, 7, 99, 300, 450, 100000])) for name in draw.sample(NAMES, kinds)])


def drawn_offer(draw, names, most=9):
    """An offer on these names that wants at most so many pieces of a kind."""
    name = draw.choice(names)
    sort = draw.choice(["more", "set", "set", "share", "slip"])
    if sort == "more":
        many = draw.randint(2, max(2, most))
        return ("more", name, many, draw.randint(1, many - 1))
    if sort == "set":
        wanted = draw.sample(names, draw.randint(1, len(names)))
        return ("set", tuple((one, draw.randint(1, most)) for one in wanted), draw.choice([0, 5, 100, 500, 1000]))
    if sort == "slip" and len(names) > 1:
        slip, kind = draw.sample(names, 2)
        return ("slip", slip, kind, draw.choice([1, 50, 100, 100000]))
    return ("share", name, draw.choice([1, 20, 33, 50, 99, 100]))


def drawn_cases(seed, cases, kinds=3, most=2, offers=4):
    """Shops with up to so many kinds, up to so many offers, and baskets with up to so many pieces of a kind."""
    draw = random.Random(seed)
    for _ in range(cases):
        shop = drawn_shop(draw, draw.randint(1, kinds))
        some = [drawn_offer(draw, shop.names, most) for _ in range(draw.randint(0, offers))]
        yield shop, some, [draw.randint(0, most) for _ in shop.names]


def inner_baskets(basket):
    """All baskets within a basket, in the order of their numbers, by the words of [4]."""
    turned = itertools.product(*[range(count + 1) for count in reversed(basket)])
    return [tuple(reversed(one)) for one in turned]


def deal_by_words(shop, offer):
    """The deal of an offer that is right, as [5] tells it."""
    prices = dict(zip(shop.names, shop.prices))
    if offer[0] == "more":
        wants, price = {offer[1]: offer[2]}, offer[3] * prices[offer[1]]
    elif offer[0] == "set":
        wants, price = dict(offer[1]), offer[2]
    elif offer[0] == "share":
        wants, price = {offer[1]: 1}, prices[offer[1]] - (prices[offer[1]] * offer[2]) // 100
    else:
        wants, price = {offer[1]: 1, offer[2]: 1}, max(prices[offer[2]] - offer[3], 0)
    return tuple(wants.get(name, 0) for name in shop.names), price


def deals_by_words(shop, offers):
    plain = [(tuple(int(at == own) for at in range(len(shop.names))), price) for own, price in enumerate(shop.prices)]
    return plain + [deal_by_words(shop, offer) for offer in offers]


def all_ways(basket, deals):
    """Every way to pay a basket: of each deal, how often it is used."""
    if not deals:
        return [[]] if not any(basket) else []
    wants = deals[0][0]
    found, often, left = [], 0, tuple(basket)
    while min(left) >= 0:
        found += [[often] + way for way in all_ways(left, deals[1:])]
        often, left = often + 1, tuple(count - many for count, many in zip(left, wants))
    return found


def cost_by_all_ways(basket, deals):
    return min(sum(often * price for often, (_, price) in zip(way, deals)) for way in all_ways(basket, deals))
