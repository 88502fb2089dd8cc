"""The files of the package: what stands where, and in what form; and the examples of the README."""

import ast
import doctest
import pathlib
import unittest

ROOT = pathlib.Path(__file__).resolve().parent.parent
PACKAGE = ROOT / "freshpromise"

DEFINED = {
    "errors.py": ["FreshError", "BadGoods", "BadStairs", "BadDay", "BadText", "BadCommand", "UnknownId", "TakenId",
                  "TooMany", "NoRoom", "NothingToDo", "UnknownName", "TakenName"],
    "goods.py": ["is_day", "is_amount", "is_id", "is_pair", "is_goods", "suits", "suits_pair", "pair_of",
                 "with_amount"],
    "stairs.py": ["Stairs"],
    "sums.py": ["supply", "demand", "surplus", "least_stairs", "room_for", "room_stairs", "rooms"],
    "plans.py": ["is_plan", "make_plan", "is_barred", "used"],
    "cuts.py": ["kept_amounts", "cuts", "cut_stairs", "is_kept"],
    "house.py": ["House"],
    "offers.py": ["offer", "barred_days", "longest_keeping"],
    "texts.py": ["house_text", "read_house", "table"],
    "console.py": ["Console"],
    "risks.py": ["burden", "spare", "safe_room", "is_safe", "worst_loss", "blockers"],
    "group.py": ["Group"],
}
METHODS = {
    ("stairs.py", "Stairs"): ["__init__", "__contains__", "__len__", "__bool__", "__or__", "__and__", "__eq__",
                              "corners", "text", "within", "read"],
    ("house.py", "House"): ["__init__", "today", "lots", "orders", "add_lot", "accept", "cancel", "lessen",
                            "change_lot", "recall", "close_day", "lot", "order", "room", "undo", "redo", "cuts_if",
                            "cuts_if_recalled", "made", "copied", "same"],
    ("console.py", "Console"): ["__init__", "__call__"],
    ("group.py", "Group"): ["__init__", "open_house", "house", "names", "send", "accept", "find"],
}


def defined_in(node):
    """Return the names of the functions and classes that stand directly in a file or class."""
    return [part.name for part in node.body if isinstance(part, (ast.FunctionDef, ast.ClassDef))]


class PackageTest(unittest.TestCase):
    def test_each_name_is_defined_in_its_file(self):
        for name, names in DEFINED.items():
            with self.subTest(name):
                found = defined_in(ast.parse((PACKAGE / name).read_text()))
                self.assertEqual([one for one in names if one not in found], [])

    def test_each_method_is_defined_in_its_class(self):
        for (name, owner), names in METHODS.items():
            tree = ast.parse((PACKAGE / name).read_text())
            made = [part for part in tree.body if isinstance(part, ast.ClassDef) and part.name == owner]
            self.assertEqual([one for one in names if one not in defined_in(made[0])], [])

    def test_the_form_of_the_files(self):
        for path in sorted(PACKAGE.rglob("*.py")):
            text = path.read_text()
            rows = text.split("\n")
            with self.subTest(path.name):
                self.assertTrue(all(sign == "\n" or " " <= sign <= "~" for sign in text))
                self.assertLess(len(rows), 400)
                self.assertLessEqual(max(len(row) for row in rows), 120)
                for node in ast.walk(ast.parse(text)):
                    if isinstance(node, ast.FunctionDef):
                        self.assertLessEqual(node.end_lineno - node.lineno + 1, 40)

    def test_the_folder_contains_nothing_else(self):
        others = [path.name for path in PACKAGE.rglob("*") if path.suffix != ".py" and "__pycache__" not in path.parts]
        self.assertEqual(others, [])

    def test_the_examples_of_the_readme(self):
        failed, tried = doctest.testfile(str(ROOT / "README.md"), module_relative=False)
        self.assertEqual(failed, 0)
        self.assertGreater(tried, 0)
