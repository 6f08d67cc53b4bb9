"""Tests of what [1] and the interface say of the package as a whole."""

import ast
import inspect
import pathlib
import unittest

from larderlist import cooking, errors, lacks, needs, tables, weeks

FOLDER = pathlib.Path(errors.__file__).parent

# Each of these would let a clock, chance, files or the world outside in.
BARRED = ("open", "input", "print", "eval", "exec", "compile", "__import__", "globals", "hash", "id")

# What the language lets the package import beside its own modules.
LIBRARY = ("heapq", "math", "itertools", "collections")


def trees():
    """The name and the syntax tree of each file of the package."""
    return [(path.name, ast.parse(path.read_text("utf-8"))) for path in sorted(FOLDER.glob("*.py"))]


def allowed(module):
    return module.startswith("larderlist.") or module in LIBRARY


class Package(unittest.TestCase):
    def test_init_binds_nothing(self):
        self.assertEqual(dict(trees())["__init__.py"].body, [])

    def test_the_folder_holds_the_files_of_the_interface(self):
        names = [name for name, tree in trees()]
        for name in ("errors", "needs", "lacks", "tables", "cooking", "weeks", "__init__"):
            self.assertIn(name + ".py", names)

    def test_arguments_are_called_as_the_interface_says(self):
        told = {
            needs.things_of: ["dishes"],
            needs.needed: ["dishes", "name"],
            needs.from_day: ["amounts"],
            lacks.kept: ["larder", "name"],
            lacks.lacking: ["dishes", "larder", "name"],
            tables.price_of: ["offers", "counts"],
            tables.serves: ["offers", "counts", "lacks"],
            tables.table: ["offers", "lacks"],
            tables.bought: ["offers", "lacks"],
            cooking.cooked: ["dishes", "larder"],
            cooking.ends: ["larder", "uses"],
            weeks.shopped: ["dishes", "larder", "packs"],
            weeks.stocked: ["larder", "packs", "counts"],
            weeks.total: ["packs", "counts"],
            weeks.week: ["dishes", "larder", "packs"],
            weeks.listed: ["packs", "counts"],
        }
        for function, names in told.items():
            with self.subTest(function=function.__name__):
                self.assertEqual(list(inspect.signature(function).parameters), names)

    def test_arguments_may_be_passed_by_name(self):
        dishes, larder = ((1, (("egg", 3),)),), (("egg", 1, 1),)
        self.assertEqual(needs.needed(dishes=dishes, name="egg")[0], 3)
        self.assertEqual(lacks.kept(larder=larder, name="egg")[0], 1)
        self.assertEqual(lacks.lacking(dishes=dishes, larder=larder, name="egg")[0], 2)
        offers, ones = ((2, 5, 9),), (2,) + (0,) * 6
        self.assertEqual(tables.price_of(offers=offers, counts=(3,)), 15)
        self.assertIs(tables.serves(offers=offers, counts=(1,), lacks=ones), True)
        self.assertEqual(tables.table(offers=offers, lacks=ones)[0], (0, 5, 5))
        self.assertEqual(tables.bought(offers=offers, lacks=ones), (1,))
        packs = (("egg", 2, 5, 9),)
        self.assertEqual(cooking.cooked(dishes=dishes, larder=larder * 3), (((0, 1), (1, 1), (2, 1)),))
        self.assertEqual(cooking.ends(larder=larder, uses=()), ((0, 1, 0),))
        self.assertEqual(weeks.shopped(dishes=dishes, larder=larder, packs=packs), (1,))
        self.assertEqual(len(weeks.stocked(larder=larder, packs=packs, counts=(2,))), 3)
        self.assertEqual(weeks.total(packs=packs, counts=(2,)), 10)
        self.assertEqual(weeks.week(dishes=dishes, larder=larder, packs=packs)[0], (1,))
        self.assertEqual(weeks.listed(packs=packs, counts=(0,)), "total 0")

    def test_no_clock_no_chance_no_files(self):
        for name, tree in trees():
            for node in ast.walk(tree):
                with self.subTest(file=name):
                    self.assertNotIsInstance(node, ast.Import)
                    if isinstance(node, ast.ImportFrom):
                        self.assertEqual(node.level, 0)
                        self.assertTrue(allowed(node.module), node.module)
                    if isinstance(node, ast.Name):
                        self.assertNotIn(node.id, BARRED)


if __name__ == "__main__":
    unittest.main()
