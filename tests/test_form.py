"""The form of the package: its interface, and rules of LANGUAGE.md that are plain to see."""

import ast
import importlib
import inspect
import re
import unittest
from pathlib import Path

PACKAGE = Path(__file__).resolve().parent.parent / "evenrows"
INTERFACE = {
    "rows": {
        "is_row": "(hands, thing)",
        "signs": "(hands, row, one, other)",
        "totals": "(hands, row, worths)",
        "lead": "(hands, row, one, other, worths)",
    },
    "smooth": {
        "differences": "(worths, *, order=1)",
        "is_smooth": "(worths, degree)",
    },
    "sums": {
        "sums": "(hands, row, one, other, *, order=1)",
        "is_even": "(hands, row, degree)",
        "evenness": "(hands, row)",
    },
    "leads": {
        "greatest": "(hands, row, order, *, bound=1)",
        "of_two": "(hands, row, one, other, order, *, bound=1)",
        "worst": "(hands, row, one, other, order, *, bound=1)",
    },
    "making": {
        "put_into": "(hands, row, other)",
        "joined": "(hands, row, other)",
        "turned": "(hands, row)",
        "named": "(hands, row, names)",
    },
    "searching": {
        "shortest": "(hands, degree)",
        "calmest": "(hands, places, order)",
    },
    "mending": {
        "exchanged": "(hands, row, one, other)",
        "mended": "(hands, row, order)",
        "mended_on": "(hands, row, order)",
        "nearest": "(hands, row, degree)",
    },
    "foreseeing": {
        "straight_on": "(worths, places, order)",
        "foreseen": "(hands, row, told, one, other, order, *, bound=1)",
        "calming": "(hands, row, told, order, *, bound=1)",
    },
    "counting": {
        "moments": "(hands, row, degree)",
        "counted": "(hands, places, degree)",
        "spread": "(hands, places, order)",
    },
    "texts": {
        "row_text": "(hands, row)",
        "read_row": "(hands, text)",
        "worths_text": "(worths)",
        "read_worths": "(text)",
    },
}
METHODS = {
    "__init__": "(self, hands, row)",
    "tell": "(self, worth)",
    "exchange": "(self, one, other)",
    "totals": "(self)",
    "worths": "(self)",
    "row": "(self)",
    "next": "(self)",
    "most": "(self)",
    "foresee": "(self, one, other, order, *, bound=1)",
    "back": "(self)",
    "twin": "(self)",
    "__len__": "(self)",
    "__str__": "(self)",
    "__eq__": "(self, other)",
}


def files():
    return sorted(path for path in PACKAGE.rglob("*") if path.is_file() and path.parent.name != "__pycache__")


class InterfaceTest(unittest.TestCase):

    def test_functions_are_as_written(self):
        for name, functions in INTERFACE.items():
            module = importlib.import_module("evenrows." + name)
            for function, told in functions.items():
                with self.subTest((name, function)):
                    found = getattr(module, function)
                    self.assertTrue(inspect.isfunction(found))
                    self.assertEqual(found.__module__, module.__name__)
                    self.assertEqual(str(inspect.signature(found)), told)

    def test_the_class_is_as_written(self):
        module = importlib.import_module("evenrows.tables")
        self.assertTrue(inspect.isclass(module.Table))
        self.assertEqual(module.Table.__module__, module.__name__)
        for method, told in METHODS.items():
            with self.subTest(method):
                found = vars(module.Table)[method]
                self.assertTrue(inspect.isfunction(found))
                self.assertEqual(str(inspect.signature(found)), told)

    def test_arguments_are_taken_by_name(self):
        from evenrows.rows import lead
        from evenrows.smooth import differences, is_smooth
        from evenrows.sums import is_even, sums
        self.assertEqual(lead(hands=2, row=(0, 1), one=0, other=1, worths=(5, 3)), 2)
        self.assertEqual(differences(worths=(5, 3), order=1), [-2])
        self.assertIs(is_smooth(worths=(5, 3), degree=1), True)
        self.assertEqual(sums(hands=2, row=(0, 1), one=0, other=1, order=2), [1, 1])
        self.assertIs(is_even(hands=2, row=(0, 1), degree=0), True)

    def test_arguments_of_leads_and_made_and_mended_rows_are_taken_by_name(self):
        from evenrows.leads import greatest, of_two, worst
        from evenrows.making import joined, named, put_into, turned
        from evenrows.mending import exchanged, mended, mended_on, nearest
        from evenrows.searching import calmest, shortest
        self.assertEqual(greatest(hands=2, row=(0, 1), order=1, bound=5), 5)
        self.assertEqual(of_two(hands=2, row=(0, 1), one=0, other=1, order=1, bound=5), 5)
        self.assertEqual(worst(hands=2, row=(0, 1), one=0, other=1, order=1, bound=5), (0, -5))
        self.assertEqual(put_into(hands=2, row=(0, 0), other=(1,)), (1, 1))
        self.assertEqual(joined(hands=2, row=(0, 0), other=(1,)), (0, 0, 1))
        self.assertEqual(turned(hands=2, row=(0, 1)), (1, 0))
        self.assertEqual(named(hands=2, row=(0, 0), names=(1, 0)), (1, 1))
        self.assertEqual(shortest(hands=2, degree=0), (0, 1))
        self.assertEqual(calmest(hands=2, places=2, order=1), (0, 1))
        self.assertEqual(exchanged(hands=2, row=(0, 1), one=0, other=1), (1, 0))
        self.assertEqual(mended(hands=2, row=(0, 0, 1, 1), order=1), (0, 2, 2))
        self.assertEqual(mended_on(hands=2, row=(0, 0, 1, 1), order=1), [(0, 2, 2)])
        self.assertEqual(nearest(hands=2, row=(0, 0), degree=0), ((0, 1), 1))

    def test_arguments_of_leads_foreseen_counts_and_texts_are_taken_by_name(self):
        from evenrows.counting import counted, moments, spread
        from evenrows.foreseeing import calming, foreseen, straight_on
        from evenrows.texts import read_row, read_worths, row_text, worths_text
        self.assertEqual(straight_on(worths=(5, 3), places=3, order=2), (5, 3, 1))
        self.assertEqual(foreseen(hands=2, row=(0, 1), told=(5,), one=0, other=1, order=1, bound=7), (-7, 7))
        self.assertEqual(calming(hands=2, row=(0, 0, 1, 1), told=(0,), order=1, bound=3), (1, 2, 6))
        self.assertEqual(moments(hands=2, row=(0, 1), degree=1), [[1, 0], [1, 1]])
        self.assertEqual(counted(hands=2, places=4, degree=1), 2)
        self.assertEqual(spread(hands=2, places=4, order=2), [(2, 2)])
        self.assertEqual(row_text(hands=2, row=(0, 1)), "ab")
        self.assertEqual(read_row(hands=2, text="ab"), (0, 1))
        self.assertEqual(worths_text(worths=(5, -3)), "5 -3")
        self.assertEqual(read_worths(text="5 -3"), (5, -3))

    def test_what_stands_behind_a_star_is_taken_by_name_alone(self):
        from evenrows.smooth import differences
        from evenrows.sums import sums
        with self.assertRaises(TypeError):
            differences((5, 3), 1)
        with self.assertRaises(TypeError):
            sums(2, (0, 1), 0, 1, 1)

    def test_a_bound_is_taken_by_name_alone(self):
        from evenrows.leads import greatest, of_two, worst
        with self.assertRaises(TypeError):
            greatest(2, (0, 1), 1, 1)
        with self.assertRaises(TypeError):
            of_two(2, (0, 1), 0, 1, 1, 1)
        with self.assertRaises(TypeError):
            worst(2, (0, 1), 0, 1, 1, 1)
        from evenrows.foreseeing import calming, foreseen
        with self.assertRaises(TypeError):
            foreseen(2, (0, 1), (5,), 0, 1, 1, 1)
        with self.assertRaises(TypeError):
            calming(2, (0, 1), (5,), 1, 1)


class LanguageTest(unittest.TestCase):

    def test_files_have_plain_names(self):
        for path in files():
            self.assertRegex(path.name, re.compile(r"^[a-z0-9_]+\.py\Z"))
        self.assertIn("__init__.py", [path.name for path in files()])

    def test_lines_and_signs(self):
        for path in files():
            text = path.read_bytes().decode("ascii")
            self.assertRegex(text, re.compile(r"^[ -~\n]*\Z"))
            self.assertLessEqual(len(text.splitlines()), 399, path.name)
            self.assertLessEqual(max(len(line) for line in text.splitlines()), 120, path.name)

    def test_functions_are_short(self):
        for path in files():
            for node in ast.walk(ast.parse(path.read_text())):
                if isinstance(node, ast.FunctionDef):
                    self.assertLessEqual(node.end_lineno - node.lineno + 1, 40, (path.name, node.name))

    def test_nothing_is_imported_but_what_is_let(self):
        for path in files():
            for node in ast.walk(ast.parse(path.read_text())):
                self.assertNotIsInstance(node, ast.Import, path.name)
                if isinstance(node, ast.ImportFrom):
                    self.assertEqual(node.level, 0, path.name)
                    self.assertRegex(node.module, r"^(evenrows\.[a-z_]+|heapq|math|itertools|collections)$")


if __name__ == "__main__":
    unittest.main()
