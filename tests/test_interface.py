"""The interface's names, arguments, and the files in which they are defined."""

import ast
import inspect
import unittest
from pathlib import Path

from tillbasket import baskets, errors, notes, offers, paying, shop

PACKAGE = Path(__file__).resolve().parent.parent / "tillbasket"


def defined_in(file_name):
    """What a file defines by `def` and `class` at its top, and each class's own methods."""
    found = {}
    for node in ast.parse((PACKAGE / file_name).read_text(encoding="utf-8")).body:
        if isinstance(node, ast.ClassDef):
            found[node.name] = [part.name for part in node.body if isinstance(part, ast.FunctionDef)]
        elif isinstance(node, ast.FunctionDef):
            found[node.name] = None
    return found


def parameters(function):
    return list(inspect.signature(function).parameters)


class Interface(unittest.TestCase):

    def test_errors_are_defined_in_their_file(self):
        found = defined_in("errors.py")
        for name in ("TillError", "BadKinds", "BadName", "Twice", "BadPrice", "BadBasket", "TooMany",
                     "BadOffer", "NoKind", "NoOffer"):
            with self.subTest(name):
                self.assertIn(name, found)
                self.assertTrue(inspect.isclass(getattr(errors, name)))

    def test_shop_is_defined_in_its_file(self):
        self.assertIn("place", defined_in("shop.py")["Shop"])
        self.assertEqual(parameters(shop.Shop), ["kinds"])
        self.assertEqual(parameters(shop.Shop.place), ["self", "name"])

    def test_shop_takes_its_arguments_by_their_names(self):
        self.assertEqual(shop.Shop(kinds=[("tea", 3)]).place(name="tea"), 0)

    def test_baskets_are_defined_in_their_file(self):
        found = defined_in("baskets.py")
        for name, told in (("need_basket", ["shop", "basket"]), ("within", ["basket"]),
                           ("number_of", ["basket", "inner"]), ("counts_of", ["basket", "number"])):
            with self.subTest(name):
                self.assertIn(name, found)
                self.assertEqual(parameters(getattr(baskets, name)), told)

    def test_offers_paying_and_notes_are_defined_in_their_files(self):
        asked = ["shop", "offers", "basket"]
        for module, name, told in ((offers, "deal_of", ["shop", "offer"]), (offers, "deals", ["shop", "offers"]),
                                   (paying, "table", asked), (paying, "cost", asked), (paying, "paid", asked),
                                   (notes, "shown", ["offer"]), (notes, "read", ["line"]), (notes, "billed", asked)):
            with self.subTest(name):
                self.assertIn(name, defined_in(Path(module.__file__).name))
                self.assertEqual(parameters(getattr(module, name)), told)

    def test_offers_paying_and_notes_take_their_arguments_by_their_names(self):
        tea = shop.Shop([("tea", 300)])
        line = notes.shown(offer=notes.read(line="share tea 20"))
        self.assertEqual(line, "share tea 20")
        share = ("share", "tea", 20)
        self.assertEqual(offers.deal_of(shop=tea, offer=share), ((1,), 240))
        self.assertEqual(offers.deals(shop=tea, offers=[share]), [((1,), 300), ((1,), 240)])
        self.assertEqual(paying.table(shop=tea, offers=[share], basket=[1]), [0, 240])
        self.assertEqual(paying.cost(shop=tea, offers=[share], basket=[1]), 240)
        self.assertEqual(paying.paid(shop=tea, offers=[share], basket=[1]), (240, [0, 1]))
        self.assertEqual(notes.billed(shop=tea, offers=[share], basket=[1]), ["1 x share tea 20: 240", "sum: 240"])

    def test_the_most_baskets_within(self):
        self.assertIs(type(baskets.MOST), int)
        self.assertEqual(baskets.MOST, 300)


if __name__ == "__main__":
    unittest.main()
