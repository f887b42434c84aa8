"""The names of the interface: where they are defined, and what they are called with."""

import doctest
import importlib
import inspect
import pathlib
import unittest

INTERFACE = {
    "askedorder.rows": {
        "honest": "(keys, question)",
        "stable_order": "(keys, *, reverse=False)",
        "is_order": "(keys, order, *, reverse=False)",
    },
    "askedorder.runs": {
        "run_of": "(keys, start)",
        "run_lengths": "(keys)",
        "standing": "(keys, start, count)",
        "told_run": "(many, answers)",
    },
    "askedorder.errors": {
        "InvalidKeys": "(index)",
        "InvalidQuestion": "(question)",
        "InvalidAnswer": "(answer)",
        "InvalidAnswers": "(index)",
        "InvalidOrder": "(index)",
        "InvalidLengths": "(index)",
        "InvalidBlocks": "(index)",
        "InvalidNumber": "(name)",
        "InvalidHeap": "(index)",
        "NothingAsked": "(count)",
        "NotFinished": "(count)",
        "RowChanged": "(count)",
        "TooLarge": "(limit)",
        "Mismatch": "(name)",
    },
}


class Interface(unittest.TestCase):
    def test_each_name_is_defined_in_its_file(self):
        for module, names in INTERFACE.items():
            for name in names:
                with self.subTest(module=module, name=name):
                    self.assertEqual(getattr(importlib.import_module(module), name).__module__, module)

    def test_each_name_has_its_arguments(self):
        for module, names in INTERFACE.items():
            for name, arguments in names.items():
                with self.subTest(module=module, name=name):
                    found = inspect.signature(getattr(importlib.import_module(module), name))
                    self.assertEqual(str(found), arguments)

    def test_size_and_characters_of_the_files(self):
        package = pathlib.Path(importlib.import_module("askedorder").__file__).parent
        for file in sorted(package.glob("**/*.py")):
            with self.subTest(file.name):
                lines = file.read_text(encoding="ascii").split("\n")
                self.assertLess(len(lines), 400)
                self.assertLessEqual(max(len(line) for line in lines), 120)
                self.assertNotIn("\t", "".join(lines))

    def test_examples_of_the_readme(self):
        readme = pathlib.Path(__file__).parent.parent / "README.md"
        found = doctest.testfile(str(readme), module_relative=False)
        self.assertGreater(found.attempted, 0)
        self.assertEqual(found.failed, 0)


if __name__ == "__main__":
    unittest.main()
