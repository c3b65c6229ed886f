"""Promises 11 and 12, and promise 1 where it speaks of texts."""

import copy
import unittest

from tests.helper import NAMES, Asking, deals_by_words, drawn_cases, fields
from tillbasket.errors import NoOffer
from tillbasket.notes import billed, read, shown
from tillbasket.paying import paid
from tillbasket.shop import Shop

WRITTEN = [
    (("more", "tea", 3, 2), "more tea 3 2"),
    (("more", "a", 2, 1), "more a 2 1"),
    (("more", "abcdefgh", 9, 8), "more abcdefgh 9 8"),
    (("set", (("tea", 2), ("cup", 1)), 500), "set tea 2 cup 1 at 500"),
    (("set", (("cup", 1), ("tea", 2)), 500), "set cup 1 tea 2 at 500"),
    (("set", (("tea", 1),), 0), "set tea 1 at 0"),
    (("set", (("tea", 9),), 100000), "set tea 9 at 100000"),
    (("set", (("a", 1), ("b", 2), ("c", 3), ("d", 4), ("e", 9)), 10), "set a 1 b 2 c 3 d 4 e 9 at 10"),
    (("share", "tea", 20), "share tea 20"),
    (("share", "tea", 1), "share tea 1"),
    (("share", "tea", 100), "share tea 100"),
    (("slip", "card", "tea", 100), "slip card tea 100"),
    (("slip", "card", "tea", 1), "slip card tea 1"),
    (("slip", "card", "tea", 100000), "slip card tea 100000"),
    # Kinds may be called like the words of offers.
    (("set", (("at", 1),), 500), "set at 1 at 500"),
    (("set", (("at", 1), ("set", 2)), 500), "set at 1 set 2 at 500"),
    (("set", (("tea", 1), ("at", 2)), 500), "set tea 1 at 2 at 500"),
    (("more", "more", 3, 2), "more more 3 2"),
    (("share", "share", 20), "share share 20"),
    (("slip", "slip", "more", 5), "slip slip more 5"),
]

# Texts that write no number, wherever a number stands.
NO_FIGURES = ["", "00", "01", "02", "03", "010", "+1", "-1", "+2", "-0", "2.", "2.0", "2,", "1_0", "1e1", "0x1", "x",
              "ii", "\u0662", "\u00b2", "\uff12", "two", "True", "None", "2\n", "\t2", "2\r", "(2)",
              "9" * 20, "9" * 5000]
NO_NAMES = ["", "Tea", "TEA", "tea1", "t\u00e9", "te-a", "te_a", "abcdefghi", "3", "tea\n", "\ttea", "tea,", "'tea'",
            "`", "{", "\uff54ea", "\u00df"]


class Written(Asking):

    def test_each_sort(self):
        for offer, line in WRITTEN:
            with self.subTest(line):
                self.assertEqual(shown(offer), line)
                self.assertIs(type(shown(offer)), str)

    def test_read_back(self):
        for offer, line in WRITTEN:
            with self.subTest(line):
                told = read(line)
                self.assertEqual(told, offer)
                self.assertIs(type(told), tuple)

    def test_wants_are_read_as_tuples_and_numbers_as_whole_ones(self):
        _, wants, price = read("set tea 1 cup 1 at 1")
        self.assertIs(type(wants), tuple)
        self.assertEqual([type(pair) for pair in wants], [tuple, tuple])
        self.assertEqual({type(many) for _, many in wants} | {type(price)}, {int})
        for line in ("more tea 2 1", "share tea 1", "slip card tea 1"):
            self.assertIs(type(read(line)[-1]), int)

    def test_drawn_offers(self):
        for _, some, _ in drawn_cases(51, 200, kinds=5, most=9):
            for offer in some:
                with self.subTest(offer):
                    self.assertEqual(read(shown(offer)), offer)
                    self.assertEqual(shown(read(shown(offer))), shown(offer))

    def test_every_bound_is_read(self):
        for many in range(2, 10):
            for number in range(1, many):
                self.assertEqual(read(f"more tea {many} {number}"), ("more", "tea", many, number))
        for off in range(1, 101):
            self.assertEqual(read(f"share tea {off}"), ("share", "tea", off))
        for many in range(1, 10):
            self.assertEqual(read(f"set tea {many} at 5"), ("set", (("tea", many),), 5))
        for price in (0, 1, 9, 10, 99999, 100000):
            self.assertEqual(read(f"set tea 1 at {price}"), ("set", (("tea", 1),), price))
        for off in (1, 9, 10, 99999, 100000):
            self.assertEqual(read(f"slip card tea {off}"), ("slip", "card", "tea", off))

    def test_what_is_handed_in_stays(self):
        for offer, _ in WRITTEN:
            before = copy.deepcopy(offer)
            shown(offer)
            self.assertEqual(offer, before)


class NotWritten(Asking):

    def assert_no_offer(self, line):
        self.assert_refused(NoOffer, read, line)

    def test_no_text(self):
        for line in (None, 5, True, b"share tea 20", ["share tea 20"], ["share", "tea", "20"], ("share", "tea", 20), {},
                     1.5):
            self.assert_no_offer(line)

    def test_no_words(self):
        for line in ("", " ", "  ", "\n", "tea", "20", "at", "sum: 0", "2 x tea: 600"):
            self.assert_no_offer(line)

    def test_blanks(self):
        for _, line in WRITTEN:
            self.assert_no_offer(" " + line)
            self.assert_no_offer(line + " ")
            for at, sign in enumerate(line):
                if sign == " ":
                    self.assert_no_offer(line[:at] + " " + line[at:])
                    self.assert_no_offer(line[:at] + line[at + 1:])

    def test_other_signs_for_blanks_and_at_the_ends(self):
        for _, line in WRITTEN:
            for other in ("\t", "\n", "\r", "\r\n", "\u00a0", "\u2003", "\x0b", "\x1f", ",", "_", ";", "\x00"):
                self.assert_no_offer(other + line)
                self.assert_no_offer(line + other)
                self.assert_no_offer(line.replace(" ", other))
                self.assert_no_offer(line.replace(" ", other, 1))
                self.assert_no_offer(line.replace(" ", " " + other, 1))
                self.assert_no_offer(other.join(line.rsplit(" ", 1)))

    def test_other_first_words(self):
        for first in ("More", "MORE", "mor", "mores", "plain", "", "tea", "3"):
            for rest in (" tea 3 2", " tea 20", " card tea 100", " tea 2 cup 1 at 500"):
                self.assert_no_offer(first + rest)

    def test_one_sorts_parts_under_anothers_word(self):
        for line in ("share tea 3 2", "slip tea 3 2", "set tea 3 2", "more tea 20", "slip tea 20", "set tea 20",
                     "more card tea 100", "share card tea 100", "set card tea 100", "more tea 2 cup 1 at 500"):
            self.assert_no_offer(line)

    def test_a_word_more_or_less(self):
        for _, line in WRITTEN:
            words = line.split(" ")
            for at in range(len(words)):
                self.assert_no_offer(" ".join(words[:at] + words[at + 1:]))
            for word in ("1", "tea", "at", "500"):
                self.assert_no_offer(line + " " + word)
                self.assert_no_offer(word + " " + line)

    def test_sets_with_a_wrong_at(self):
        for line in ("set at 500", "set", "set at", "set tea 2", "set tea 2 500", "set tea 2 At 500", "set tea 2 a 500",
                     "set tea 2 at at 500", "set tea 2 at 500 at 500", "set at 500 tea 2", "set tea at 2 500",
                     "set tea at 500", "set tea 2 cup at 500", "set 2 tea at 500", "set tea cup 2 1 at 500",
                     "set tea 2 at", "set tea 2 500 at", "set tea 2, cup 1 at 500", "set tea 2 for 500"):
            self.assert_no_offer(line)

    def test_numbers_that_are_not_written_so(self):
        for word in NO_FIGURES:
            self.assert_no_offer(f"more tea {word} 1")
            self.assert_no_offer(f"more tea 9 {word}")
            self.assert_no_offer(f"set tea {word} at 5")
            self.assert_no_offer(f"set tea 1 cup {word} at 5")
            self.assert_no_offer(f"set tea 1 at {word}")
            self.assert_no_offer(f"share tea {word}")
            self.assert_no_offer(f"slip card tea {word}")

    def test_a_nought_ahead(self):
        for line in ("more tea 03 2", "more tea 3 02", "set tea 02 at 500", "set tea 2 at 0500", "set tea 2 at 00",
                     "set tea 2 at 0000000", "share tea 020", "slip card tea 0100"):
            self.assert_no_offer(line)

    def test_numbers_beyond_their_bounds(self):
        for line in ("more tea 1 1", "more tea 1 0", "more tea 10 1", "more tea 3 0", "more tea 3 3", "more tea 2 2",
                     "more tea 9 9", "more tea 9 10", "more tea 0 0", "set tea 0 at 500", "set tea 10 at 500",
                     "set tea 1 cup 10 at 5", "set tea 1 cup 0 at 5", "set tea 1 at 100001", "set tea 1 at -1",
                     "set tea 1 at 1000000", "share tea 0", "share tea 101", "share tea 100000",
                     "slip card tea 0", "slip card tea 100001", "slip card tea 999999", "slip card tea 1000000"):
            self.assert_no_offer(line)

    def test_names_that_are_none(self):
        for name in NO_NAMES:
            self.assert_no_offer(f"more {name} 3 2")
            self.assert_no_offer(f"set {name} 2 at 5")
            self.assert_no_offer(f"set tea 1 {name} 2 at 5")
            self.assert_no_offer(f"share {name} 20")
            self.assert_no_offer(f"slip {name} tea 100")
            self.assert_no_offer(f"slip card {name} 100")

    def test_how_many_pairs(self):
        self.assert_no_offer("set a 1 b 1 c 1 d 1 e 1 f 1 at 5")
        self.assert_no_offer("set" + " tea 1" * 5000 + " at 5")

    def test_a_name_twice(self):
        for line in ("set tea 1 tea 1 at 5", "set tea 1 tea 2 at 5", "set tea 1 cup 1 tea 1 at 5",
                     "set at 1 at 2 at 5"):
            self.assert_no_offer(line)

    def test_a_slip_and_a_kind_that_are_one(self):
        for name in NAMES:
            self.assert_no_offer(f"slip {name} {name} 100")

    def test_another_sign_at_each_place(self):
        for _, line in WRITTEN:
            for at in range(len(line)):
                for sign in "A-\u00e9%\n":
                    self.assert_no_offer(line[:at] + sign + line[at + 1:])
                    self.assert_no_offer(line[:at] + sign + line[at:])

    def test_no_shop_is_asked(self):
        self.assertEqual(read("share mug 20"), ("share", "mug", 20))
        self.assertEqual(shown(("share", "mug", 20)), "share mug 20")


class Bills(Asking):

    def assert_bill(self, offers, basket, lines, shop=Shop([("tea", 300), ("cup", 450), ("card", 0)])):
        with self.subTest(offers=offers, basket=basket):
            told = billed(shop, offers, basket)
            self.assertEqual(told, lines)
            self.assertIs(type(told), list)

    def test_empty_baskets(self):
        self.assert_bill([], [0, 0, 0], ["sum: 0"])
        self.assert_bill([("share", "tea", 20)], [0, 0, 0], ["sum: 0"])

    def test_plain_deals(self):
        self.assert_bill([], [2, 1, 0], ["2 x tea: 600", "1 x cup: 450", "sum: 1050"])
        self.assert_bill([], [0, 0, 9], ["9 x card: 0", "sum: 0"])
        self.assert_bill([], [1, 2, 3], ["1 x tea: 300", "2 x cup: 900", "3 x card: 0", "sum: 1200"])

    def test_each_sort_of_offers(self):
        self.assert_bill([("more", "tea", 3, 2)], [7, 0, 0], ["1 x tea: 300", "2 x more tea 3 2: 1200", "sum: 1500"])
        self.assert_bill([("set", (("tea", 2), ("cup", 1)), 500)], [4, 3, 0],
                         ["1 x cup: 450", "2 x set tea 2 cup 1 at 500: 1000", "sum: 1450"])
        self.assert_bill([("share", "tea", 20)], [3, 0, 0], ["3 x share tea 20: 720", "sum: 720"])
        self.assert_bill([("slip", "card", "tea", 100)], [3, 0, 2],
                         ["1 x tea: 300", "2 x slip card tea 100: 400", "sum: 700"])

    def test_deals_in_their_order(self):
        slip, share, more = ("slip", "card", "tea", 100), ("share", "cup", 50), ("more", "tea", 3, 1)
        self.assert_bill([slip, share, more], [4, 1, 2],
                         ["1 x card: 0", "1 x slip card tea 100: 200", "1 x share cup 50: 225", "1 x more tea 3 1: 300",
                          "sum: 725"])
        self.assert_bill([more, share, slip], [4, 1, 2],
                         ["1 x card: 0", "1 x more tea 3 1: 300", "1 x share cup 50: 225", "1 x slip card tea 100: 200",
                          "sum: 725"])

    def test_what_is_not_used_is_not_told(self):
        self.assert_bill([("set", (("tea", 1),), 301), ("more", "tea", 9, 1)], [1, 0, 0], ["1 x tea: 300", "sum: 300"])

    def test_a_deal_that_costs_nothing_is_told(self):
        self.assert_bill([("share", "tea", 100)], [2, 0, 1], ["1 x card: 0", "2 x share tea 100: 0", "sum: 0"])

    def test_drawn_bills_tell_the_way_that_is_told(self):
        for shop, offers, basket in drawn_cases(52, 150, kinds=5, offers=6):
            words = shop.names + [shown(offer) for offer in offers]
            least, way = paid(shop, offers, basket)
            told = zip(way, words, deals_by_words(shop, offers))
            lines = [f"{often} x {word}: {often * price}" for often, word, (_, price) in told if often]
            with self.subTest(offers=offers, basket=basket, shop=fields(shop)):
                self.assertEqual(billed(shop, offers, basket), lines + [f"sum: {least}"])
                self.assertEqual(sum(int(line.rpartition(" ")[2]) for line in lines), least)


if __name__ == "__main__":
    unittest.main()
