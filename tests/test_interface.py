"""The interface: names, arguments, files, errors, and from where each file draws."""

import ast
import inspect
import pathlib
import unittest

from tests import interface

PACKAGE = pathlib.Path(__file__).resolve().parent.parent / "drycells"


def tree_of(file):
    return ast.parse((PACKAGE / f"{file}.py").read_text(encoding="utf-8"))


class InterfaceTest(unittest.TestCase):
    def test_each_function_has_its_arguments_and_stands_in_its_file(self):
        found = interface.everything()
        for name, (file, names) in interface.listed().items():
            with self.subTest(name=name):
                self.assertEqual(tuple(inspect.signature(found[name]).parameters), names)
                self.assertEqual(found[name].__module__, f"drycells.{file}")
                self.assertIn(name, [own.name for own in tree_of(file).body if isinstance(own, ast.FunctionDef)])

    def test_as_many_functions_as_listed(self):
        counts = {file: text.count("(") for file, text in interface.LISTED.items()}
        self.assertEqual(counts, {
            "digits": 22, "grids": 19, "pictures": 22, "prices": 17, "keys": 22, "reading": 16, "hiding": 15,
            "rooms": 14, "cheapest": 17, "most": 14, "anylots": 17, "guards": 17, "holes": 18,
            "several": 16, "watchers": 18, "retouched": 17, "letters": 15, "before": 13, "judge": 7, "texts": 14,
            "desk": 7,
        })
        self.assertEqual(len(interface.listed()), sum(counts.values()))

    def test_errors_have_their_values_and_base_classes(self):
        found = interface.everything()
        for name, base, values in interface.ERRORS:
            with self.subTest(name=name):
                self.assertEqual(found[name].__bases__, (base,))
                self.assertEqual(found[name].__module__, "drycells.errors")
                for given in (0, 5, -3, "a word"):
                    error = found[name](*[given for _ in values])
                    self.assertEqual(vars(error), {own: given for own in values})
                    by_names = found[name](**{own: given for own in values})
                    self.assertEqual(vars(by_names), vars(error))
                    self.assertIsInstance(str(error), str)

    def test_a_file_draws_only_from_those_ahead_of_it(self):
        for file in interface.ORDER:
            for own in ast.walk(tree_of(file)):
                self.assertNotIsInstance(own, ast.Import)
                if isinstance(own, ast.ImportFrom) and own.module not in ("math", "itertools"):
                    package, _, source = own.module.partition(".")
                    self.assertEqual((package, own.level), ("drycells", 0))
                    self.assertLess(interface.ORDER.index(source), interface.ORDER.index(file))

    def test_the_package_holds_its_files_alone(self):
        held = sorted(path.name for path in PACKAGE.iterdir() if path.name != "__pycache__")
        self.assertEqual(held, sorted(f"{file}.py" for file in interface.ORDER + ("__init__",)))


if __name__ == "__main__":
    unittest.main()
