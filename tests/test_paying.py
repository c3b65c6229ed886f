"""Promises 8, 9 and 10, and promises 1 and 3 where they speak of paying."""

import copy
import random
import time
import unittest

from tests.helper import (Asking, all_ways, cost_by_all_ways, deals_by_words, drawn_cases, drawn_offer, fields,
                          inner_baskets)
from tillbasket.baskets import counts_of, number_of, within
from tillbasket.errors import BadBasket, BadOffer, NoKind, TooMany
from tillbasket.notes import billed
from tillbasket.offers import deals
from tillbasket.paying import cost, paid, table
from tillbasket.shop import Shop

SHOP = Shop([("tea", 300), ("cup", 450), ("card", 0)])
MORE, SET = ("more", "tea", 3, 2), ("set", (("tea", 2), ("cup", 1)), 500)
SHARE, SLIP = ("share", "tea", 20), ("slip", "card", "tea", 100)
ASKED = (table, cost, paid, billed)
# Baskets with just 300 baskets within.
LARGE = ([9, 9, 2], [9, 5, 4], [4, 4, 3, 2], [4, 4, 2, 1, 1], [9, 2, 0, 9, 0])


class OwnSteps(Asking):
    """What promises 8 and 9 say, asked of a table and a way themselves."""

    def assert_table(self, shop, offers, basket):
        told, all_deals = table(shop, offers, basket), deals_by_words(shop, offers)
        self.assertIs(type(told), list)
        self.assertEqual({type(number) for number in told}, {int})
        inners = inner_baskets(basket)
        self.assertEqual(len(told), len(inners))
        self.assertEqual(told[0], 0)
        by_counts = dict(zip(inners, told))
        for inner in inners[1:]:
            reached = []
            for wants, price in all_deals:
                left = tuple(count - many for count, many in zip(inner, wants))
                if min(left) >= 0:
                    reached.append(by_counts[left] + price)
            self.assertEqual(by_counts[inner], min(reached))

    def assert_way(self, shop, offers, basket):
        told, all_deals = paid(shop, offers, basket), deals_by_words(shop, offers)
        self.assertIs(type(told), tuple)
        least, way = told
        self.assertIs(type(least), int)
        self.assertIs(type(way), list)
        self.assertEqual(len(way), len(all_deals))
        for often in way:
            self.assertIs(type(often), int)
            self.assertGreaterEqual(often, 0)
        taken = [sum(often * wants[at] for often, (wants, _) in zip(way, all_deals)) for at in range(len(basket))]
        self.assertEqual(taken, basket)
        self.assertEqual(sum(often * price for often, (_, price) in zip(way, all_deals)), least)
        self.assertEqual((least, least), (cost(shop, offers, basket), table(shop, offers, basket)[-1]))


class Costs(OwnSteps):

    def test_told_by_hand(self):
        for offers, basket, least in (([], [0, 0, 0], 0), ([], [2, 1, 1], 1050), ([MORE], [3, 0, 0], 600),
                                      ([MORE], [2, 0, 0], 600), ([MORE], [4, 0, 0], 900), ([MORE], [6, 0, 0], 1200),
                                      ([SET], [2, 1, 0], 500), ([SET], [2, 0, 0], 600), ([SET], [3, 2, 0], 1250),
                                      ([SHARE], [2, 0, 0], 480), ([SHARE], [0, 1, 0], 450),
                                      ([SLIP], [1, 0, 1], 200), ([SLIP], [1, 0, 0], 300), ([SLIP], [1, 0, 2], 200),
                                      ([SLIP], [3, 0, 2], 700), ([SLIP], [0, 0, 2], 0),
                                      # Three want the same tea, each gets its own or none.
                                      ([MORE, SHARE, SLIP], [3, 0, 1], 600), ([MORE, SHARE, SLIP], [4, 0, 1], 800),
                                      ([MORE, SET, SHARE, SLIP], [4, 1, 1], 940),
                                      ([MORE, SET, SHARE, SLIP], [0, 0, 0], 0)):
            with self.subTest(offers=offers, basket=basket):
                self.assertEqual(cost(SHOP, offers, basket), least)
                self.assertIs(type(cost(SHOP, offers, basket)), int)
                self.assert_way(SHOP, offers, basket)
                self.assert_table(SHOP, offers, basket)

    def test_the_best_of_each_piece_is_not_the_best_of_all(self):
        # The set that saves most leaves pieces that cost more than two lesser sets do.
        shop = Shop([("a", 100), ("b", 100), ("c", 100)])
        offers = [("set", (("a", 1), ("b", 1)), 90), ("set", (("a", 1), ("c", 1)), 100), ("set", (("b", 1),), 20)]
        self.assertEqual(cost(shop, offers, [1, 1, 1]), 120)
        self.assertEqual(paid(shop, offers, [1, 1, 1]), (120, [0, 0, 0, 0, 1, 1]))

    def test_an_offer_that_is_dearer_is_not_taken(self):
        dear = ("set", (("tea", 2),), 601)
        self.assertEqual(paid(SHOP, [dear], [2, 0, 0]), (600, [2, 0, 0, 0]))

    def test_an_offer_that_wants_more_than_there_is_is_not_taken(self):
        for free in (("set", (("tea", 9),), 0), ("set", (("tea", 1), ("cup", 1)), 0), ("set", (("cup", 3),), 0)):
            with self.subTest(free):
                self.assertEqual(paid(SHOP, [free], [2, 0, 0]), (600, [2, 0, 0, 0]))

    def test_a_slip_that_costs_something_by_itself(self):
        shop = Shop([("slip", 50), ("tea", 300)])
        offer = ("slip", "slip", "tea", 10)
        self.assertEqual(paid(shop, [offer], [1, 1]), (290, [0, 0, 1]))
        self.assertEqual(paid(shop, [offer], [2, 1]), (340, [1, 0, 1]))

    def test_the_table_by_hand(self):
        shop = Shop([("tea", 300), ("cup", 450)])
        self.assertEqual(table(shop, [SET], [2, 1]), [0, 300, 600, 450, 750, 500])
        self.assertEqual(table(shop, [], [0, 0]), [0])
        self.assertEqual(table(shop, [SET, SHARE], [0, 0]), [0])
        self.assertEqual(table(shop, [], [0, 2]), [0, 450, 900])

    def test_the_table_has_the_numbers_of_promise_4(self):
        for shop, offers, basket in drawn_cases(21, 30, kinds=4):
            told = table(shop, offers, basket)
            with self.subTest(offers=offers, basket=basket, shop=fields(shop)):
                for number, least in enumerate(told):
                    inner = counts_of(basket, number)
                    self.assertEqual(least, cost(shop, offers, inner))
                    self.assertEqual(number_of(basket, inner), number)

    def test_drawn_ones_by_their_own_steps(self):
        for shop, offers, basket in drawn_cases(22, 150, kinds=5, most=2, offers=6):
            with self.subTest(offers=offers, basket=basket, shop=fields(shop)):
                self.assert_table(shop, offers, basket)
                self.assert_way(shop, offers, basket)

    def test_against_all_ways(self):
        for shop, offers, basket in drawn_cases(23, 150):
            with self.subTest(offers=offers, basket=basket, shop=fields(shop)):
                all_deals = deals_by_words(shop, offers)
                least = cost_by_all_ways(basket, all_deals)
                self.assertEqual(cost(shop, offers, basket), least)
                told, way = paid(shop, offers, basket)
                self.assertEqual(told, least)
                self.assertIn(way, all_ways(basket, all_deals))
                if within(basket) < 13:
                    by_ways = [cost_by_all_ways(inner, all_deals) for inner in inner_baskets(basket)]
                    self.assertEqual(table(shop, offers, basket), by_ways)

    def test_the_same_answer_when_asked_again(self):
        for shop, offers, basket in drawn_cases(24, 60, kinds=4, offers=6):
            # With each offer twice there are always several ways that cost the same.
            offers = offers + offers
            again = Shop(list(zip(shop.names, shop.prices)))
            with self.subTest(offers=offers, basket=basket, shop=fields(shop)):
                for function in ASKED:
                    first = function(shop, offers, basket)
                    self.assertEqual(function(shop, offers, basket), first)
                    self.assertEqual(function(again, copy.deepcopy(offers), list(basket)), first)

    def test_300_baskets_within_are_answered_in_good_time(self):
        draw, begun = random.Random(25), time.process_time()
        for basket in LARGE:
            shop = Shop(list(zip("abcde", [300, 450, 99, 1, 7]))[:len(basket)])
            offers = [drawn_offer(draw, shop.names, 4) for _ in range(40)]
            with self.subTest(basket):
                self.assertEqual(len(table(shop, offers, basket)), 300)
                self.assert_table(shop, offers, basket)
                self.assert_way(shop, offers, basket)
        self.assertLess(time.process_time() - begun, 60)

    def test_nine_pieces_of_one_kind(self):
        offers = [("more", "tea", 9, 1), ("more", "tea", 4, 1)]
        self.assertEqual(table(Shop([("tea", 10)]), offers, [9]), [0, 10, 20, 30, 10, 20, 30, 40, 20, 10])


class Dearer(Asking):

    def test_an_offer_more_never_makes_a_basket_dearer(self):
        draw = random.Random(31)
        for shop, offers, basket in drawn_cases(32, 120, kinds=4):
            more = drawn_offer(draw, shop.names, 2)
            with self.subTest(offers=offers, more=more, basket=basket, shop=fields(shop)):
                before = table(shop, offers, basket)
                for longer in (offers + [more], [more] + offers):
                    after = table(shop, longer, basket)
                    self.assertTrue(all(new <= old for new, old in zip(after, before)))

    def test_another_order_makes_no_difference(self):
        draw = random.Random(33)
        for shop, offers, basket in drawn_cases(34, 120, kinds=4, offers=6):
            turned, mixed = offers[::-1], draw.sample(offers, len(offers))
            with self.subTest(offers=offers, mixed=mixed, basket=basket, shop=fields(shop)):
                before = table(shop, offers, basket)
                self.assertEqual(table(shop, turned, basket), before)
                self.assertEqual(table(shop, mixed, basket), before)
                self.assertEqual(paid(shop, mixed, basket)[0], before[-1])

    def test_one_offer_twice_makes_no_difference(self):
        for shop, offers, basket in drawn_cases(35, 120, kinds=4):
            with self.subTest(offers=offers, basket=basket, shop=fields(shop)):
                self.assertEqual(table(shop, offers + offers, basket), table(shop, offers, basket))
                self.assertEqual(len(paid(shop, offers + offers, basket)[1]), len(shop.names) + 2 * len(offers))

    def test_two_baskets_together_cost_no_more_than_both_apart(self):
        draw = random.Random(36)
        for shop, offers, one in drawn_cases(37, 120, kinds=4, offers=6):
            other = [draw.randint(0, 1) for _ in one]
            both = [mine + yours for mine, yours in zip(one, other)]
            with self.subTest(offers=offers, one=one, other=other, shop=fields(shop)):
                self.assertLessEqual(cost(shop, offers, both), cost(shop, offers, one) + cost(shop, offers, other))

    def test_a_piece_more_costs_no_more_than_its_price(self):
        for shop, offers, basket in drawn_cases(38, 120, kinds=4, offers=6):
            before = cost(shop, offers, basket)
            for at, price in enumerate(shop.prices):
                more = list(basket)
                more[at] += 1
                with self.subTest(offers=offers, basket=basket, at=at, shop=fields(shop)):
                    self.assertLessEqual(cost(shop, offers, more), before + price)

    def test_a_piece_more_may_make_a_basket_cheaper(self):
        self.assertEqual(cost(SHOP, [("set", (("tea", 2),), 100)], [1, 0, 0]), 300)
        self.assertEqual(cost(SHOP, [("set", (("tea", 2),), 100)], [2, 0, 0]), 100)


class Refused(Asking):

    def assert_all_refuse(self, refusal, shop, offers, basket):
        for function in ASKED:
            self.assert_refused(refusal, function, shop, offers, basket)

    def test_no_baskets(self):
        for basket in (None, 5, True, "111", b"111", (1, 1, 1), {}, [], [1], [1, 1], [1, 1, 1, 1], [1, 1, -1],
                       [10, 1, 1], [1, True, 1], [False, 1, 1], [1, None, 1], [1, 1, "1"], [1.0, 1, 1], [[1], 1, 1]):
            for offers in ([], [MORE, SET]):
                self.assert_all_refuse(BadBasket, SHOP, offers, basket)

    def test_too_many_within(self):
        for basket in ([9, 9, 9], [9, 9, 3], [6, 6, 6]):
            self.assert_all_refuse(TooMany, SHOP, [], basket)
            self.assert_all_refuse(TooMany, SHOP, [MORE], basket)

    def test_bad_basket_ahead_of_too_many(self):
        self.assert_all_refuse(BadBasket, SHOP, [MORE], [9, 9, 10])
        self.assert_all_refuse(BadBasket, SHOP, [], [9, 9, True])
        self.assert_all_refuse(BadBasket, SHOP, [], [9, 9, 9, 9])

    def test_offers(self):
        for basket in ([0, 0, 0], [1, 1, 1], [9, 9, 2]):
            self.assert_all_refuse(BadOffer, SHOP, [None], basket)
            self.assert_all_refuse(BadOffer, SHOP, [("share", "tea", 0)], basket)
            self.assert_all_refuse(BadOffer, SHOP, [MORE, ("slip", "tea", "tea", 1)], basket)
            self.assert_all_refuse(NoKind, SHOP, [MORE, ("share", "mug", 20)], basket)
            self.assert_all_refuse(NoKind, SHOP, [("share", "mug", 0), None], basket)
            self.assert_all_refuse(BadOffer, SHOP, [None, ("share", "mug", 20)], basket)

    def test_an_offer_that_no_piece_can_be_put_in_is_refused_too(self):
        self.assert_all_refuse(BadOffer, SHOP, [("set", (("cup", 10),), 5)], [1, 0, 0])

    def test_the_basket_ahead_of_any_offer(self):
        for offer in (None, ("share", "mug", 20), ("share", "tea", 0)):
            self.assert_all_refuse(BadBasket, SHOP, [offer], [1, 1])
            self.assert_all_refuse(BadBasket, SHOP, [offer], None)
            self.assert_all_refuse(TooMany, SHOP, [offer], [9, 9, 9])
            self.assert_all_refuse(BadBasket, SHOP, [offer], [9, 9, 10])


class ListsOfTheirOwn(Asking):

    def test_what_is_handed_in_stays(self):
        for shop, offers, basket in drawn_cases(41, 30):
            before = copy.deepcopy((fields(shop), offers, basket))
            for function in ASKED:
                function(shop, offers, basket)
                self.assertEqual((fields(shop), offers, basket), before)

    def test_told_lists_are_new_each_time(self):
        offers, basket = [MORE, SET], [3, 1, 1]
        for told in (lambda: table(SHOP, offers, basket), lambda: paid(SHOP, offers, basket)[1],
                     lambda: billed(SHOP, offers, basket), lambda: deals(SHOP, offers)):
            first, second = told(), told()
            self.assertIsNot(first, second)
            first.clear()
            self.assertEqual(told(), second)

    def test_prices_of_another_shop_are_not_kept(self):
        for price in (5, 7, 5):
            self.assertEqual(cost(Shop([("tea", price)]), [], [2]), 2 * price)


if __name__ == "__main__":
    unittest.main()
