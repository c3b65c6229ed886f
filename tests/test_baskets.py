"""Promises 3 and 4, and promise 1 where it speaks of baskets."""

import copy
import itertools
import unittest

from tillbasket.baskets import MOST, counts_of, need_basket, number_of, within
from tillbasket.errors import BadBasket, TillError, TooMany
from tillbasket.shop import Shop

NAMES = ["a", "b", "c", "d", "e"]
NO_COUNTS = [-1, 10, 100, True, False, None, "1", "", 1.0, 0.5, [1], (1,), b"1", {}]
NO_LISTS = [None, 0, 5, True, "12", "", b"12", (1, 2), (), {0: 1, 1: 2}, {1, 2}, range(2)]
SOME = [[0], [1], [9], [0, 0], [2, 1], [1, 2], [3, 0, 2], [0, 4, 0], [9, 9, 2], [2, 2, 2, 2], [0, 0, 0, 0, 0],
        [4, 4, 2, 1, 1], [1, 0, 2, 0, 3]]


def shop_of(many):
    return Shop([(name, 1) for name in NAMES[:many]])


class Needing(unittest.TestCase):

    def assert_refused(self, refusal, many, basket):
        """Just this refusal, in a shop of so many kinds; nothing is changed."""
        shop, before = shop_of(many), copy.deepcopy(basket)
        with self.subTest(many=many, basket=basket):
            with self.assertRaises(TillError) as caught:
                need_basket(shop, basket)
            self.assertIs(type(caught.exception), refusal)
            self.assertEqual(basket, before)
            self.assertEqual((shop.names, shop.prices), (NAMES[:many], [1] * many))

    def test_baskets_are_taken(self):
        for basket in SOME:
            shop, before = shop_of(len(basket)), list(basket)
            with self.subTest(basket):
                self.assertIsNone(need_basket(shop, basket))
                self.assertEqual(basket, before)
                self.assertEqual((shop.names, shop.prices), (NAMES[:len(basket)], [1] * len(basket)))

    def test_each_count_from_0_to_9(self):
        for count in range(10):
            with self.subTest(count):
                self.assertIsNone(need_basket(shop_of(1), [count]))
                self.assertIsNone(need_basket(shop_of(2), [9, count]))

    def test_the_empty_basket(self):
        for many in range(1, 6):
            with self.subTest(many):
                self.assertIsNone(need_basket(shop_of(many), [0] * many))

    def test_no_counts(self):
        for count in NO_COUNTS:
            self.assert_refused(BadBasket, 1, [count])
            self.assert_refused(BadBasket, 3, [count, 0, 1])
            self.assert_refused(BadBasket, 3, [1, count, 0])
            self.assert_refused(BadBasket, 3, [0, 1, count])

    def test_no_lists(self):
        for basket in NO_LISTS:
            self.assert_refused(BadBasket, 2, basket)

    def test_as_many_numbers_as_kinds(self):
        for many in range(1, 6):
            for numbers in range(8):
                if numbers != many:
                    self.assert_refused(BadBasket, many, [0] * numbers)

    def test_just_300_within(self):
        for basket in ([9, 9, 2], [9, 2, 9], [2, 9, 9], [9, 5, 4], [4, 4, 3, 2], [4, 4, 2, 1, 1], [0, 9, 9, 0, 2]):
            with self.subTest(basket):
                self.assertEqual(within(basket), 300)
                self.assertIsNone(need_basket(shop_of(len(basket)), basket))

    def test_more_than_300_within(self):
        # 315 is the next number above 300 that a basket can have.
        for basket in ([8, 6, 4], [6, 6, 6], [9, 9, 3], [9, 9, 9], [3, 3, 3, 4], [9, 9, 0, 0, 3], [3, 3, 3, 2, 1],
                       [9, 9, 9, 9, 9]):
            self.assertGreater(within(basket), 300)
            self.assert_refused(TooMany, len(basket), basket)

    def test_bad_basket_ahead_of_too_many(self):
        for count in NO_COUNTS:
            self.assert_refused(BadBasket, 5, [9, 9, 9, 9, count])
            self.assert_refused(BadBasket, 5, [count, 9, 9, 9, 9])
        self.assert_refused(BadBasket, 4, [9, 9, 9, 9, 9])
        self.assert_refused(BadBasket, 5, [9, 9, 9, 9])
        self.assert_refused(BadBasket, 4, (9, 9, 9, 9))
        self.assert_refused(BadBasket, 1, [300])

    def test_every_basket_of_four_kinds_by_the_words(self):
        shop = shop_of(4)
        for basket in itertools.product(range(0, 10, 3), repeat=4):
            many = 1
            for count in basket:
                many *= count + 1
            with self.subTest(basket):
                if many > MOST:
                    with self.assertRaises(TooMany):
                        need_basket(shop, list(basket))
                else:
                    self.assertIsNone(need_basket(shop, list(basket)))


class Within(unittest.TestCase):

    def test_told_by_hand(self):
        for basket, many in (([0], 1), ([9], 10), ([2, 1], 6), ([3, 0, 2], 12), ([0, 0, 0, 0, 0], 1), ([9, 9, 2], 300),
                             ([8, 6, 4], 315), ([9, 9, 9, 9, 9], 100000)):
            with self.subTest(basket):
                self.assertEqual(within(basket), many)
                self.assertIs(type(within(basket)), int)

    def test_as_many_as_there_are(self):
        for basket in SOME:
            with self.subTest(basket):
                inner = list(itertools.product(*[range(count + 1) for count in basket]))
                self.assertEqual(within(basket), len(inner))

    def test_the_basket_stays(self):
        basket = [3, 0, 2]
        within(basket)
        self.assertEqual(basket, [3, 0, 2])

    def test_refuses_nothing(self):
        self.assertEqual(within([10, 10]), 121)


class Numbers(unittest.TestCase):

    def test_told_by_hand(self):
        for basket, inner, number in (([2, 1], [0, 0], 0), ([2, 1], [1, 0], 1), ([2, 1], [2, 0], 2), ([2, 1], [0, 1], 3),
                                      ([2, 1], [1, 1], 4), ([2, 1], [2, 1], 5), ([3, 0, 2], [1, 0, 2], 9),
                                      ([1, 2, 3], [1, 2, 3], 23), ([1, 2, 3], [0, 1, 2], 14), ([9], [7], 7),
                                      ([4, 4, 2, 1, 1], [1, 2, 0, 1, 1], 236)):
            with self.subTest(basket=basket, inner=inner):
                self.assertEqual(number_of(basket, inner), number)
                self.assertIs(type(number_of(basket, inner)), int)
                self.assertEqual(counts_of(basket, number), inner)

    def test_the_empty_one_and_the_basket_itself(self):
        for basket in SOME:
            with self.subTest(basket):
                empty = [0] * len(basket)
                self.assertEqual(number_of(basket, empty), 0)
                self.assertEqual(counts_of(basket, 0), empty)
                self.assertEqual(number_of(basket, basket), within(basket) - 1)
                self.assertEqual(counts_of(basket, within(basket) - 1), basket)

    def test_the_sum_of_the_counts_by_the_words(self):
        for basket in SOME:
            for inner in itertools.product(*[range(count + 1) for count in basket]):
                number = sum(count * within(basket[:at]) for at, count in enumerate(inner))
                with self.subTest(basket=basket, inner=inner):
                    self.assertEqual(number_of(basket, list(inner)), number)
                    self.assertEqual(counts_of(basket, number), list(inner))

    def test_each_number_once(self):
        for basket in SOME:
            inner = itertools.product(*[range(count + 1) for count in basket])
            with self.subTest(basket):
                self.assertEqual(sorted(number_of(basket, list(one)) for one in inner), list(range(within(basket))))


class ListsOfTheirOwn(unittest.TestCase):

    def test_what_is_handed_in_stays(self):
        basket, inner = [3, 0, 2], [1, 0, 2]
        number_of(basket, inner)
        counts_of(basket, 9)
        self.assertEqual((basket, inner), ([3, 0, 2], [1, 0, 2]))

    def test_told_lists_are_new_each_time(self):
        basket = [2, 1]
        first = counts_of(basket, 4)
        self.assertIs(type(first), list)
        first[0] = 9
        second = counts_of(basket, 4)
        self.assertEqual(second, [1, 1])
        self.assertIsNot(first, second)

    def test_the_basket_itself_is_told_as_a_list_of_its_own(self):
        basket = [2, 1]
        told = counts_of(basket, 5)
        self.assertIsNot(told, basket)
        told.append(7)
        self.assertEqual(basket, [2, 1])


if __name__ == "__main__":
    unittest.main()
