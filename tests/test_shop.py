"""Promise 2, and promise 1 where it speaks of shops."""

import copy
import unittest
from unittest import mock

from tillbasket.errors import BadKinds, BadName, BadPrice, NoKind, TillError, Twice
from tillbasket.shop import Shop

FIVE = [("tea", 300), ("cup", 450), ("card", 0), ("a", 100000), ("abcdefgh", 1)]
NO_NAMES = ["", "abcdefghi", "Tea", "TEA", "te a", " tea", "tea ", "tea\n", "tea1", "te-a", "te_a", "t\u00e9", "\u00e9",
            "\u03b1", "`", "{", "te`a", "te{a", "\u00df", "1", None, 5, True, b"tea", ["t"], ("t",), {}, ["tea"]]
NO_PRICES = [-1, 100001, True, False, None, "1", "", 1.0, 0.5, [1], (1,), b"1", {}]
NO_PAIRS = [None, 5, True, "ab", "tea", b"ab", [], ["tea", 3], (), ("tea",), ("tea", 3, 4), {"tea": 3, "cup": 4}]
NO_LISTS = [None, 5, True, "tea", "", b"tea", (), (("tea", 3),), ("tea", 3), {"tea": 3}, {}, {("tea", 3)}]


class Refusing(unittest.TestCase):

    def assert_refused(self, refusal, kinds):
        """Just this refusal; what is handed in stays as it was."""
        before = copy.deepcopy(kinds)
        with self.subTest(kinds=kinds):
            with self.assertRaises(TillError) as caught:
                Shop(kinds)
            self.assertIs(type(caught.exception), refusal)
            self.assertEqual(kinds, before)


class Kinds(Refusing):

    def test_one_to_five_kinds(self):
        for many in (1, 2, 3, 4, 5):
            with self.subTest(many):
                shop = Shop(FIVE[:many])
                self.assertEqual(shop.names, ["tea", "cup", "card", "a", "abcdefgh"][:many])
                self.assertEqual(shop.prices, [300, 450, 0, 100000, 1][:many])

    def test_the_order_is_kept(self):
        shop = Shop([("tea", 1), ("cup", 2), ("bun", 3)])
        self.assertEqual(shop.names, ["tea", "cup", "bun"])
        self.assertEqual(shop.prices, [1, 2, 3])

    def test_fields_are_lists(self):
        shop = Shop(FIVE)
        self.assertIs(type(shop.names), list)
        self.assertIs(type(shop.prices), list)

    def test_none_and_six(self):
        self.assert_refused(BadKinds, [])
        self.assert_refused(BadKinds, FIVE + [("six", 6)])
        self.assert_refused(BadKinds, FIVE + FIVE)

    def test_no_list(self):
        for kinds in NO_LISTS:
            self.assert_refused(BadKinds, kinds)


class Names(Refusing):

    def test_one_to_eight_signs(self):
        for many in range(1, 9):
            name = "qwertyui"[:many]
            with self.subTest(name):
                self.assertEqual(Shop([(name, 1)]).names, [name])

    def test_each_sign_from_a_to_z(self):
        for sign in "abcdefghijklmnopqrstuvwxyz":
            with self.subTest(sign):
                self.assertEqual(Shop([(sign, 1)]).names, [sign])

    def test_no_names(self):
        for name in NO_NAMES:
            self.assert_refused(BadName, [(name, 3)])
            self.assert_refused(BadName, [("cup", 1), (name, 3)])

    def test_other_signs_wherever_they_stand(self):
        for sign in "`{AZ09 -_.\n":
            for name in (sign + "ea", "t" + sign + "a", "te" + sign):
                self.assert_refused(BadName, [(name, 3)])

    def test_no_pairs(self):
        for kind in NO_PAIRS:
            self.assert_refused(BadName, [kind])
            self.assert_refused(BadName, [("cup", 1), kind])

    def test_twice(self):
        self.assert_refused(Twice, [("tea", 1), ("tea", 1)])
        self.assert_refused(Twice, [("tea", 1), ("tea", 2)])
        self.assert_refused(Twice, [("tea", 1), ("cup", 2), ("tea", 3)])
        self.assert_refused(Twice, FIVE[:4] + [("card", 1)])

    def test_names_that_are_alike_only_in_part(self):
        self.assertEqual(Shop([("te", 1), ("tea", 1), ("teas", 1)]).names, ["te", "tea", "teas"])


class Prices(Refusing):

    def test_lowest_and_highest(self):
        self.assertEqual(Shop([("tea", 0), ("cup", 100000)]).prices, [0, 100000])

    def test_several_kinds_may_cost_the_same(self):
        self.assertEqual(Shop([("tea", 7), ("cup", 7)]).prices, [7, 7])

    def test_no_prices(self):
        for price in NO_PRICES:
            self.assert_refused(BadPrice, [("tea", price)])
            self.assert_refused(BadPrice, [("cup", 1), ("tea", price)])


class Order(Refusing):

    def test_kinds_ahead_of_all(self):
        self.assert_refused(BadKinds, [("Tea", -1)] * 6)
        self.assert_refused(BadKinds, [("tea", 1)] * 6)
        self.assert_refused(BadKinds, [None] * 6)
        self.assert_refused(BadKinds, (("Tea", -1), ("Tea", -1)))

    def test_name_ahead_of_price(self):
        self.assert_refused(BadName, [("Tea", -1)])
        self.assert_refused(BadName, [("", True)])
        self.assert_refused(BadName, [("tea", -1, 0)])

    def test_name_ahead_of_twice(self):
        self.assert_refused(BadName, [("tea", 1), ("tea", 1, 1)])

    def test_twice_ahead_of_price(self):
        self.assert_refused(Twice, [("tea", 1), ("tea", -1)])
        self.assert_refused(Twice, [("tea", 1), ("tea", True)])

    def test_each_kind_whole_ahead_of_the_next(self):
        self.assert_refused(BadPrice, [("tea", -1), ("Tea", 1)])
        self.assert_refused(BadPrice, [("tea", -1), ("tea", 1)])
        self.assert_refused(BadPrice, [("tea", -1), None])
        self.assert_refused(Twice, [("tea", 1), ("tea", 1), ("Tea", 1)])
        self.assert_refused(Twice, [("tea", 1), ("tea", 1), ("cup", -1)])
        self.assert_refused(BadName, [("tea", 1), None, ("tea", 1)])
        self.assert_refused(BadName, [("tea", 1), ("Cup", 1), ("bun", -1)])


class Place(unittest.TestCase):

    def test_each_kind(self):
        shop = Shop(FIVE)
        self.assertEqual([shop.place(name) for name, _ in FIVE], [0, 1, 2, 3, 4])

    def test_first_and_only(self):
        place = Shop([("tea", 1)]).place("tea")
        self.assertEqual(place, 0)
        self.assertIs(type(place), int)

    def test_no_kind(self):
        shop = Shop([("tea", 3), ("cup", 4)])
        for name in NO_NAMES + ["te", "teas", "bun", "teacup", 0, 1, ("tea", 3), ["tea", "cup"], mock.ANY]:
            with self.subTest(name=name):
                with self.assertRaises(TillError) as caught:
                    shop.place(name)
                self.assertIs(type(caught.exception), NoKind)

    def test_asking_changes_nothing(self):
        shop = Shop([("tea", 3), ("cup", 4)])
        shop.place("cup")
        with self.assertRaises(NoKind):
            shop.place("bun")
        self.assertEqual((shop.names, shop.prices), (["tea", "cup"], [3, 4]))


class ListsOfItsOwn(unittest.TestCase):

    def test_what_is_handed_in_stays(self):
        kinds = list(FIVE)
        Shop(kinds).place("tea")
        self.assertEqual(kinds, FIVE)

    def test_later_changes_of_what_was_handed_in_do_not_reach_the_shop(self):
        kinds = [("tea", 3), ("cup", 4)]
        shop = Shop(kinds)
        kinds[0] = ("bun", 5)
        kinds.append(("card", 0))
        self.assertEqual((shop.names, shop.prices), (["tea", "cup"], [3, 4]))
        self.assertEqual(shop.place("tea"), 0)

    def test_two_shops_share_no_list(self):
        kinds = [("tea", 3), ("cup", 4)]
        one, other = Shop(kinds), Shop(kinds)
        self.assertIsNot(one.names, other.names)
        self.assertIsNot(one.prices, other.prices)
        one.names.append("bun")
        one.prices.append(5)
        self.assertEqual((other.names, other.prices), (["tea", "cup"], [3, 4]))
        self.assertEqual(kinds, [("tea", 3), ("cup", 4)])


if __name__ == "__main__":
    unittest.main()
