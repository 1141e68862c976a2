"""The interface: names, arguments, and what the package draws from outside."""

import ast
import inspect
import unittest
from pathlib import Path

import fadinglots
from fadinglots import mixtures

PACKAGE = Path(fadinglots.__file__).parent
PARAMETERS = {
    "mean_strength": ["mask", "month", "lots"],
    "last_month_at": ["mask", "threshold", "lots"],
    "heaviest_set": ["threshold", "month", "lots"],
    "retention": ["mask", "month", "lots"],
    "first_month_reduced": ["mask", "factor", "lots"],
    "order_by_strength": ["month", "lots"],
}


class Interface(unittest.TestCase):
    def test_names_and_arguments(self):
        for name, parameters in PARAMETERS.items():
            function = getattr(mixtures, name)
            self.assertEqual(function.__module__, "fadinglots.mixtures")
            signature = inspect.signature(function)
            self.assertEqual(list(signature.parameters), parameters)
            for parameter in signature.parameters.values():
                self.assertIs(parameter.default, inspect.Parameter.empty)

    def test_called_by_name(self):
        self.assertEqual(mixtures.mean_strength(mask=1, month=2, lots=[1, 8, 1, 2]), [0, 2, 1])
        self.assertEqual(mixtures.last_month_at(mask=1, threshold=2, lots=[1, 8, 1, 2]), [2])
        self.assertEqual(mixtures.heaviest_set(threshold=2, month=1, lots=[5, 8, 1, 2]), [5, 1])
        self.assertEqual(mixtures.retention(mask=1, month=0, lots=[5, 8, 1, 2]), [0, 1, 2])
        self.assertEqual(mixtures.first_month_reduced(mask=1, factor=3, lots=[5, 8, 1, 2]), [2])
        self.assertEqual(mixtures.order_by_strength(month=1, lots=[5, 8, 1, 2]), [1, 0])

    def test_nothing_from_outside_the_package(self):
        for path in PACKAGE.glob("*.py"):
            for node in ast.walk(ast.parse(path.read_text(encoding="ascii"))):
                self.assertNotIsInstance(node, ast.Import)
                if isinstance(node, ast.ImportFrom):
                    self.assertTrue(node.module.startswith("fadinglots."))
                if isinstance(node, ast.Name):
                    self.assertNotIn(node.id, ("print", "open", "input", "eval", "exec"))


if __name__ == "__main__":
    unittest.main()
