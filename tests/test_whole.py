"""Promise 1 over the whole program, as far as its text shows it; the tests of each part ask the rest."""

import ast
import subprocess
import sys
import unittest
from pathlib import Path

TOP = Path(__file__).resolve().parent.parent
FILES = sorted((TOP / "tillbasket").glob("*.py"))
# What reaches files, clocks or chance without an import, or makes the order of an answer depend on the run.
BARRED = {"open", "input", "print", "eval", "exec", "compile", "hash", "id", "frozenset", "globals", "vars"}

# Offers of like cost, so that several ways are the best, in a process of its own.
ASKED = """
from tillbasket.notes import billed
from tillbasket.paying import paid, table
from tillbasket.shop import Shop
shop = Shop([("tea", 300), ("cup", 300), ("card", 0)])
offers = [("set", (("tea", 1), ("cup", 1)), 500), ("more", "tea", 2, 1), ("more", "cup", 2, 1),
          ("set", (("cup", 1), ("tea", 1)), 500), ("slip", "card", "tea", 100), ("slip", "card", "cup", 100)]
basket = [4, 4, 3]
print(table(shop, offers, basket), paid(shop, offers, basket), billed(shop, offers, basket))
"""


def told_with(seed):
    """What a process of its own tells, with this seed for Python's hashes."""
    settings = {"PYTHONHASHSEED": seed, "PYTHONDONTWRITEBYTECODE": "1"}
    told = subprocess.run([sys.executable, "-c", ASKED], cwd=TOP, env=settings, capture_output=True, text=True,
                          check=True)
    return told.stdout


class Whole(unittest.TestCase):

    def test_every_import_is_of_the_package_itself(self):
        self.assertGreaterEqual(len(FILES), 7)
        for file in FILES:
            for node in ast.walk(ast.parse(file.read_text(encoding="utf-8"))):
                with self.subTest(file=file.name):
                    self.assertNotIsInstance(node, ast.Import)
                    if isinstance(node, ast.ImportFrom):
                        self.assertEqual(node.level, 0)
                        self.assertEqual(node.module.partition(".")[0], "tillbasket")

    def test_no_name_reaches_outside(self):
        for file in FILES:
            for node in ast.walk(ast.parse(file.read_text(encoding="utf-8"))):
                if isinstance(node, ast.Name):
                    with self.subTest(file=file.name):
                        self.assertNotIn(node.id, BARRED)

    def test_the_same_answer_in_another_run(self):
        first = told_with("0")
        self.assertIn("sum: ", first)
        for seed in ("1", "2", "3"):
            with self.subTest(seed):
                self.assertEqual(told_with(seed), first)


if __name__ == "__main__":
    unittest.main()
