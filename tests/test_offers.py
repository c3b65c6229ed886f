"""Promises 5, 6 and 7, and promise 1 where it speaks of offers."""

import collections
import copy
import unittest

from tests.helper import NO_NUMBERS, Asking, deal_by_words, deals_by_words, drawn_cases, fields
from tillbasket.errors import BadOffer, NoKind
from tillbasket.offers import deal_of, deals
from tillbasket.shop import Shop

FIVE = [("tea", 300), ("cup", 455), ("card", 0), ("at", 100000), ("bun", 7)]
SHOP = Shop(FIVE)
NO_NAMES = ["", "te", "teas", "Tea", "tea ", "mug", "abcdefghi", None, 0, 1, True, b"tea", ["tea"], ("tea",), {}, 1.5]
ONES = tuple((name, 1) for name, _ in FIVE)


class DealsTold(Asking):

    def assert_deal(self, offer, wants, price, shop=SHOP):
        with self.subTest(offer=offer):
            told = deal_of(shop, offer)
            self.assertEqual(told, (wants, price))
            self.assertIs(type(told), tuple)
            self.assertIs(type(told[0]), tuple)
            self.assertEqual({type(many) for many in told[0]} | {type(told[1])}, {int})

    def test_more(self):
        self.assert_deal(("more", "tea", 3, 2), (3, 0, 0, 0, 0), 600)
        self.assert_deal(("more", "bun", 9, 8), (0, 0, 0, 0, 9), 56)
        self.assert_deal(("more", "card", 2, 1), (0, 0, 2, 0, 0), 0)

    def test_set(self):
        self.assert_deal(("set", (("tea", 2), ("cup", 1)), 500), (2, 1, 0, 0, 0), 500)
        self.assert_deal(("set", (("bun", 9), ("tea", 1)), 0), (1, 0, 0, 0, 9), 0)
        # A set may be dearer than its pieces by themselves.
        self.assert_deal(("set", (("card", 1),), 100000), (0, 0, 1, 0, 0), 100000)

    def test_share(self):
        self.assert_deal(("share", "tea", 20), (1, 0, 0, 0, 0), 240)
        self.assert_deal(("share", "at", 1), (0, 0, 0, 1, 0), 99000)
        self.assert_deal(("share", "cup", 100), (0, 1, 0, 0, 0), 0)
        self.assert_deal(("share", "card", 50), (0, 0, 1, 0, 0), 0)

    def test_what_a_share_takes_off_is_rounded_down(self):
        for price, off, left in ((455, 1, 451), (455, 99, 5), (7, 50, 4), (7, 14, 7), (7, 15, 6), (1, 99, 1),
                                 (1, 100, 0), (99, 1, 99), (100, 1, 99), (101, 1, 100), (199, 1, 198),
                                 (99999, 33, 67000)):
            self.assert_deal(("share", "a", off), (1,), left, Shop([("a", price)]))

    def test_slip(self):
        self.assert_deal(("slip", "card", "tea", 100), (1, 0, 1, 0, 0), 200)
        self.assert_deal(("slip", "bun", "cup", 1), (0, 1, 0, 0, 1), 454)

    def test_a_slips_own_price_does_not_count(self):
        self.assert_deal(("slip", "at", "tea", 100), (1, 0, 0, 1, 0), 200)
        self.assert_deal(("slip", "tea", "at", 100), (1, 0, 0, 1, 0), 99900)

    def test_a_slips_deal_costs_nought_at_least(self):
        self.assert_deal(("slip", "card", "tea", 299), (1, 0, 1, 0, 0), 1)
        self.assert_deal(("slip", "card", "tea", 300), (1, 0, 1, 0, 0), 0)
        self.assert_deal(("slip", "card", "tea", 301), (1, 0, 1, 0, 0), 0)
        self.assert_deal(("slip", "card", "tea", 100000), (1, 0, 1, 0, 0), 0)
        self.assert_deal(("slip", "tea", "card", 1), (1, 0, 1, 0, 0), 0)

    def test_a_kind_may_be_called_like_a_sort_of_offers(self):
        shop = Shop([("more", 10), ("set", 20), ("share", 30), ("slip", 40)])
        self.assert_deal(("more", "set", 2, 1), (0, 2, 0, 0), 20, shop)
        self.assert_deal(("set", (("share", 1), ("more", 2)), 5), (2, 0, 1, 0), 5, shop)
        self.assert_deal(("share", "share", 10), (0, 0, 1, 0), 27, shop)
        self.assert_deal(("slip", "slip", "more", 3), (1, 0, 0, 1), 7, shop)

    def test_drawn_offers_by_the_words(self):
        for shop, some, _ in drawn_cases(5, 200, kinds=5, most=9):
            for offer in some:
                with self.subTest(offer=offer, shop=fields(shop)):
                    self.assertEqual(deal_of(shop, offer), deal_by_words(shop, offer))


class Lists(Asking):

    def test_plain_deals_alone(self):
        self.assertEqual(deals(SHOP, []), [((1, 0, 0, 0, 0), 300), ((0, 1, 0, 0, 0), 455), ((0, 0, 1, 0, 0), 0),
                                           ((0, 0, 0, 1, 0), 100000), ((0, 0, 0, 0, 1), 7)])
        self.assertEqual(deals(Shop([("tea", 3)]), []), [((1,), 3)])

    def test_plain_deals_ahead_of_those_of_offers_in_their_order(self):
        shop = Shop([("tea", 300), ("cup", 450)])
        share, more = ("share", "tea", 20), ("more", "cup", 3, 1)
        plain = [((1, 0), 300), ((0, 1), 450)]
        self.assertEqual(deals(shop, [share, more]), plain + [((1, 0), 240), ((0, 3), 450)])
        self.assertEqual(deals(shop, [more, share]), plain + [((0, 3), 450), ((1, 0), 240)])

    def test_one_offer_twice_is_two_deals(self):
        shop = Shop([("tea", 300)])
        self.assertEqual(deals(shop, [("share", "tea", 20)] * 2), [((1,), 300), ((1,), 240), ((1,), 240)])

    def test_drawn_lists_by_the_words(self):
        for shop, some, _ in drawn_cases(6, 100, kinds=5, most=9):
            with self.subTest(some=some, shop=fields(shop)):
                told = deals(shop, some)
                self.assertEqual(told, deals_by_words(shop, some))
                self.assertEqual(told[len(shop.names):], [deal_of(shop, offer) for offer in some])

    def test_told_lists_are_new_and_what_is_handed_in_stays(self):
        shop = Shop(FIVE)
        some = [("set", (("tea", 2), ("cup", 1)), 500), ("slip", "card", "tea", 100)]
        before = copy.deepcopy(some)
        first = deals(shop, some)
        self.assertIs(type(first), list)
        second = deals(shop, some)
        self.assertIsNot(first, second)
        first.append(None)
        self.assertEqual(deals(shop, some), second)
        self.assertEqual((some, fields(shop)), (before, fields(SHOP)))
        self.assertIsNot(deals(shop, []), deals(shop, []))


class Bounds(Asking):

    def assert_taken(self, offer):
        with self.subTest(offer=offer):
            self.assertEqual(deal_of(SHOP, offer), deal_by_words(SHOP, offer))

    def assert_bad(self, offer):
        self.assert_refused(BadOffer, deal_of, SHOP, offer)
        self.assert_refused(BadOffer, deals, SHOP, [offer])

    def test_many_of_more(self):
        self.assert_taken(("more", "tea", 2, 1))
        self.assert_taken(("more", "tea", 9, 1))
        for many in [1, 0, -1, 10, 10 ** 30] + NO_NUMBERS:
            self.assert_bad(("more", "tea", many, 1))

    def test_paid_of_more(self):
        for many in range(2, 10):
            for number in range(1, many):
                self.assert_taken(("more", "tea", many, number))
            for number in [0, -1, many, many + 1, 10 ** 30] + NO_NUMBERS:
                self.assert_bad(("more", "tea", many, number))

    def test_how_many_pairs(self):
        for pairs in range(1, 6):
            self.assert_taken(("set", ONES[:pairs], 5))
        self.assert_bad(("set", (), 5))
        # Of five kinds, six pairs always have one twice.
        self.assert_bad(("set", ONES + ONES[:1], 5))
        self.assert_bad(("set", ONES * 2, 5))

    def test_how_many_of_it(self):
        for many in range(1, 10):
            self.assert_taken(("set", (("tea", many),), 5))
        for many in [0, -1, 10, 10 ** 30] + NO_NUMBERS:
            self.assert_bad(("set", (("tea", many),), 5))
            self.assert_bad(("set", (("tea", many), ("cup", 1)), 5))
            self.assert_bad(("set", (("tea", 1), ("cup", many)), 5))

    def test_price_of_a_set(self):
        self.assert_taken(("set", (("tea", 1),), 0))
        self.assert_taken(("set", (("tea", 1),), 100000))
        for price in [-1, 100001, 10 ** 30] + NO_NUMBERS:
            self.assert_bad(("set", (("tea", 1),), price))

    def test_off_of_a_share(self):
        for off in range(1, 101):
            self.assert_taken(("share", "cup", off))
        for off in [0, -1, 101, 10 ** 30] + NO_NUMBERS:
            self.assert_bad(("share", "cup", off))

    def test_off_of_a_slip(self):
        self.assert_taken(("slip", "card", "tea", 1))
        self.assert_taken(("slip", "card", "tea", 100000))
        for off in [0, -1, 100001, 10 ** 30] + NO_NUMBERS:
            self.assert_bad(("slip", "card", "tea", off))


class Refused(Asking):

    def assert_offer(self, refusal, offer, shop=SHOP):
        self.assert_refused(refusal, deal_of, shop, offer)
        self.assert_refused(refusal, deals, shop, [offer])
        self.assert_refused(refusal, deals, shop, [("share", "tea", 20), offer])

    def test_no_tuples(self):
        for offer in (None, 5, True, "", "more", "share tea 20", b"more", [], ["share", "tea", 20], {}, {"share": 1},
                      1.5, ["more", "tea", 3, 2], ["slip", "card", "tea", 100]):
            self.assert_offer(BadOffer, offer)

    def test_a_tuple_under_another_name_is_one(self):
        told = collections.namedtuple("told", ["first", "name", "off"])
        self.assertEqual(deal_of(SHOP, told("share", "tea", 20)), ((1, 0, 0, 0, 0), 240))

    def test_another_first_part(self):
        for first in ("", "More", "mor", "mores", "more ", "sets", "shares", "tea", "plain", b"more", None, 0, 1, True,
                      ["more"], ("more",), {}, {"more": 4}):
            self.assert_offer(BadOffer, (first,))
            self.assert_offer(BadOffer, (first, "tea", 20))
            self.assert_offer(BadOffer, (first, "tea", 3, 2))
        self.assert_offer(BadOffer, ())

    def test_a_part_more_or_less(self):
        for offer in (("more", "tea", 3, 2), ("set", (("tea", 2),), 500), ("share", "tea", 20),
                      ("slip", "card", "tea", 100)):
            for parts in range(1, len(offer)):
                self.assert_offer(BadOffer, offer[:parts])
            for part in (1, 2, "tea", None):
                self.assert_offer(BadOffer, offer + (part,))

    def test_names_that_are_no_kinds(self):
        for name in NO_NAMES:
            self.assert_offer(NoKind, ("more", name, 3, 2))
            self.assert_offer(NoKind, ("share", name, 20))
            self.assert_offer(NoKind, ("slip", name, "tea", 100))
            self.assert_offer(NoKind, ("slip", "card", name, 100))
            self.assert_offer(NoKind, ("slip", name, name, 100))
            self.assert_offer(NoKind, ("set", ((name, 1),), 5))
            self.assert_offer(NoKind, ("set", ((name, 1), ("tea", 1)), 5))
            self.assert_offer(NoKind, ("set", (("tea", 1), (name, 1)), 5))

    def test_another_shops_kind(self):
        self.assert_refused(NoKind, deal_of, Shop([("tea", 3)]), ("share", "cup", 20))
        self.assert_refused(NoKind, deal_of, Shop([("tea", 3)]), ("slip", "card", "tea", 20))

    def test_wants_that_are_no_tuple_of_pairs(self):
        for wants in (None, 5, True, "tea", "ab", b"ab", [], [("tea", 1)], {"tea": 1}, ("tea", 1), ("tea", "cup"),
                      (["tea", 1],), (("tea",),), (("tea", 1, 1),), ((),), ("ab",), (5,), (None,), (("tea", 1), None),
                      (("tea", 1), ["cup", 1]), (("tea", 1), ("cup",)), ({"tea": 1, "cup": 1},)):
            self.assert_offer(BadOffer, ("set", wants, 5))

    def test_a_name_twice_in_a_set(self):
        self.assert_offer(BadOffer, ("set", (("tea", 1), ("tea", 1)), 5))
        self.assert_offer(BadOffer, ("set", (("tea", 1), ("tea", 2)), 5))
        self.assert_offer(BadOffer, ("set", (("tea", 1), ("cup", 1), ("tea", 1)), 5))
        self.assert_offer(BadOffer, ("set", ONES[:4] + ONES[:1], 5))

    def test_a_slip_and_a_kind_that_are_one(self):
        for name, _ in FIVE:
            self.assert_offer(BadOffer, ("slip", name, name, 1))


class Order(Asking):

    def assert_offer(self, refusal, offer):
        self.assert_refused(refusal, deal_of, SHOP, offer)
        self.assert_refused(refusal, deals, SHOP, [offer])

    def test_form_ahead_of_names(self):
        self.assert_offer(BadOffer, ["share", "mug", 20])
        self.assert_offer(BadOffer, ("shares", "mug", 20))
        self.assert_offer(BadOffer, ("share", "mug"))
        self.assert_offer(BadOffer, ("share", "mug", 20, 20))
        self.assert_offer(BadOffer, ("more", "mug", 3))
        self.assert_offer(BadOffer, ("slip", "mug", "jar"))
        self.assert_offer(BadOffer, ("set", (("mug", 1),)))

    def test_names_ahead_of_numbers(self):
        for number in [0, -1, 100001] + NO_NUMBERS:
            self.assert_offer(NoKind, ("more", "mug", number, 1))
            self.assert_offer(NoKind, ("more", "mug", 3, number))
            self.assert_offer(NoKind, ("share", "mug", number))
            self.assert_offer(NoKind, ("slip", "mug", "tea", number))
            self.assert_offer(NoKind, ("slip", "card", "mug", number))
            self.assert_offer(NoKind, ("set", (("mug", number),), 5))
            self.assert_offer(NoKind, ("set", (("tea", number), ("mug", 1)), 5))
            self.assert_offer(NoKind, ("set", (("mug", 1),), number))

    def test_names_ahead_of_what_is_twice(self):
        self.assert_offer(NoKind, ("set", (("tea", 1), ("tea", 1), ("mug", 1)), 5))
        self.assert_offer(NoKind, ("set", (("mug", 1), ("mug", 1)), 5))
        self.assert_offer(NoKind, ("slip", "mug", "mug", 100))

    def test_names_ahead_of_how_many_pairs(self):
        self.assert_offer(NoKind, ("set", ONES + (("mug", 1),), 5))

    def test_no_name_is_looked_at_in_what_is_no_tuple_of_pairs(self):
        for wants in ([("mug", 1)], (("mug",),), (("mug", 1, 1),), (["mug", 1],), (("mug", 1), None),
                      (None, ("mug", 1)), (("mug", 1), ("tea", 1, 1)), ("mug", 1), {"mug": 1}, "mug"):
            self.assert_offer(BadOffer, ("set", wants, 5))

    def test_each_offer_whole_ahead_of_the_next(self):
        formless, nameless, numberless = ("share",), ("share", "mug", 20), ("share", "tea", 0)
        right = ("share", "tea", 20)
        for first, refusal in ((formless, BadOffer), (nameless, NoKind), (numberless, BadOffer)):
            for second in (formless, nameless, numberless, None):
                self.assert_refused(refusal, deals, SHOP, [first, second])
                self.assert_refused(refusal, deals, SHOP, [right, first, second])
                self.assert_refused(refusal, deals, SHOP, [first, right, second])


if __name__ == "__main__":
    unittest.main()
