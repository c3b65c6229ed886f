"""What a basket costs at the least, a way to pay just that, and the table that shows it."""

from tillbasket.baskets import counts_of, need_basket, number_of, within
from tillbasket.offers import deals


def has_pieces(basket, wants):
    """Tell whether a basket has the pieces that a deal wants."""
    return all([many <= count for many, count in zip(wants, basket)])


def usable_deals(basket, choices):
    """Of the deals whose pieces the basket has: place, wants, price, and the number of these pieces."""
    return [(place, wants, price, number_of(basket, wants))
            for place, (wants, price) in enumerate(choices) if has_pieces(basket, wants)]


def reach(basket, choices):
    """For each basket within, by its number: its cost, and the place of the deal that is taken first."""
    usable = usable_deals(basket, choices)
    reached = [(0, None)]
    for number in range(1, within(basket)):
        inner = counts_of(basket, number)
        # Numbers of baskets are sums, so what is left without a deal's pieces has the difference of both.
        # Of deals that cost the same, the least place is taken, so that the answer is always the same.
        reached.append(min([(reached[number - step][0] + price, place)
                            for place, wants, price, step in usable if has_pieces(inner, wants)]))
    return reached


def way_taken(basket, choices, reached):
    """How often each deal is used, from the basket down to the empty one."""
    way = [0] * len(choices)
    number = len(reached) - 1
    while number > 0:
        place = reached[number][1]
        way[place] += 1
        number -= number_of(basket, choices[place][0])
    return way


def table(shop, offers, basket):
    """What each basket within costs, by its number."""
    need_basket(shop, basket)
    return [least for least, _ in reach(basket, deals(shop, offers))]


def cost(shop, offers, basket):
    """What the basket costs at the least."""
    return table(shop, offers, basket)[-1]


def paid(shop, offers, basket):
    """What the basket costs at the least, and how often a way that costs this uses each deal."""
    need_basket(shop, basket)
    choices = deals(shop, offers)
    reached = reach(basket, choices)
    return reached[-1][0], way_taken(basket, choices, reached)
