"""The names of the interface: where they are defined, and what they are called with."""

import ast
import doctest
import importlib
import inspect
import pathlib
import re
import unittest

# What rule L12 of LANGUAGE.md lets no name begin with, and what no name is.
BARRED_BEGINNINGS = (
    "__", "_wall", "_pe_", "_dcw_", "_enum_", "_cm_", "_twin_re_", "_lay_", "_law_", "_stub_", "_sre", "_WallAttr",
)
BARRED_NAMES = re.compile("(_cold|_tuplegetter|_outside|_record|_written_out|_member_names)[0-9_]*")
PLAIN_NAME = re.compile("_?[A-Za-z][A-Za-z0-9_]*")

INTERFACE = {
    "askedorder.rows": {
        "honest": "(keys, question)",
        "stable_order": "(keys, *, reverse=False)",
        "is_order": "(keys, order, *, reverse=False)",
    },
    "askedorder.runs": {
        "run_of": "(keys, start)",
        "run_lengths": "(keys)",
        "standing": "(keys, start, count)",
        "told_run": "(many, answers)",
    },
    "askedorder.placing": {
        "least_length": "(many)",
        "placed": "(keys, ready)",
        "placing_standing": "(keys, ready, count)",
        "told_placing": "(many, ready, answers)",
        "fewest_placing": "(many, ready)",
        "most_placing": "(many, ready)",
        "easy_keys": "(many, ready)",
        "hard_keys": "(many, ready)",
    },
    "askedorder.leaps": {
        "before": "(key, keys, hint)",
        "behind": "(key, keys, hint)",
        "leap_places": "(n, hint, place)",
        "most_leap": "(n, hint)",
        "total_leap": "(n, hint)",
    },
    "askedorder.joins": {
        "joined": "(first, second, patience=7)",
        "standing_in": "(first, second, patience, count)",
        "answered": "(sizes, answers, patience=7)",
        "join_count": "(lengths, patience=7)",
    },
    "askedorder.levels": {
        "level": "(start, first, second, whole)",
        "levels": "(lengths)",
        "stack": "(lengths)",
        "depth": "(lengths)",
        "merges": "(lengths)",
        "cost": "(lengths)",
        "rounds": "(lengths)",
        "least_cost": "(lengths)",
        "least_way": "(lengths)",
        "is_way": "(lengths, joins)",
        "first_unlike": "(lengths, joins)",
    },
    "askedorder.sorting": {
        "order_of": "(keys, *, reverse=False)",
        "questions_of": "(keys, *, reverse=False)",
        "count_of": "(keys, *, reverse=False)",
        "pieces_of": "(keys, *, reverse=False)",
        "steps_of": "(keys, *, reverse=False)",
    },
    "askedorder.live": {
        "Sorter": "(many, *, reverse=False)",
    },
    "askedorder.answers": {
        "told": "(many, answers, *, reverse=False)",
        "judged": "(many, log, *, reverse=False)",
        "are_honest": "(many, log)",
        "first_lie": "(many, log)",
        "least_keys": "(many, log)",
        "answers_for": "(order, *, reverse=False)",
        "ended_rows": "(many)",
        "honest_rows": "(many)",
    },
    "askedorder.lines": {
        "Line": "(values)",
    },
    "askedorder.counts": {
        "fewest": "(many)",
        "most": "(many)",
        "fewest_keys": "(many)",
        "most_keys": "(many)",
        "count_of_falling": "(lengths)",
        "sum_of": "(many)",
        "spread": "(many)",
    },
    "askedorder.needed": {
        "follows": "(many, log, question)",
        "implied": "(many, log)",
        "settles": "(many, log, *, reverse=False)",
        "open_pairs": "(many, log, *, reverse=False)",
        "needless": "(many, log, *, reverse=False)",
        "kept": "(many, log, *, reverse=False)",
        "wasted": "(keys, *, reverse=False)",
        "settled_at": "(keys, *, reverse=False)",
    },
    "askedorder.heaps": {
        "is_heap": "(keys)",
        "heap_fault": "(keys)",
        "deed_done": "(deed, keys, key=None)",
        "deed_told": "(deed, many, answers)",
        "fewest_asked": "(deed, many)",
        "most_asked": "(deed, many)",
        "drained": "(keys)",
        "count_heaps": "(many)",
        "heap_place": "(order)",
        "heap_at": "(many, place)",
    },
    "askedorder.blocks": {
        "keys_of_blocks": "(blocks)",
        "count_blocks": "(blocks, *, reverse=False)",
        "pieces_of_blocks": "(blocks, *, reverse=False)",
        "joins_of_blocks": "(blocks, *, reverse=False)",
    },
    "askedorder.errors": {
        "InvalidKeys": "(index)",
        "InvalidQuestion": "(question)",
        "InvalidAnswer": "(answer)",
        "InvalidAnswers": "(index)",
        "InvalidOrder": "(index)",
        "InvalidLengths": "(index)",
        "InvalidBlocks": "(index)",
        "InvalidNumber": "(name)",
        "InvalidHeap": "(index)",
        "NothingAsked": "(count)",
        "NotFinished": "(count)",
        "RowChanged": "(count)",
        "TooLarge": "(limit)",
        "Mismatch": "(name)",
    },
}

METHODS = {
    ("askedorder.live", "Sorter"): {
        "wanted": "(self)",
        "reply": "(self, is_less)",
        "asked": "(self)",
        "order": "(self)",
        "patience": "(self)",
        "pieces": "(self)",
        "doing": "(self)",
        "undo": "(self)",
        "copied": "(self)",
    },
    ("askedorder.lines", "Line"): {
        "shown": "(self)",
        "depth": "(self)",
        "begin": "(self, *, reverse=False, by='less')",
        "wants": "(self)",
        "asked": "(self)",
        "give": "(self, answer)",
        "fail": "(self)",
        "standing": "(self)",
        "is_changed": "(self)",
        "append": "(self, value)",
        "insert": "(self, place, value)",
        "extend": "(self, values)",
        "replace": "(self, values)",
        "pop": "(self, place=-1)",
        "remove": "(self, value)",
        "clear": "(self)",
        "turn": "(self)",
        "copied": "(self)",
    },
}


def package_files():
    return sorted(pathlib.Path(importlib.import_module("askedorder").__file__).parent.glob("**/*.py"))


def names_of(tree):
    """All names in a parsed file: of variables, functions, classes, arguments, attributes, modules."""
    for node in ast.walk(tree):
        for field in ("id", "attr", "arg", "name", "asname", "module"):
            value = getattr(node, field, None)
            if isinstance(value, str):
                yield from value.split(".")


def is_plain_name(name):
    """Whether rule L12 lets a name be."""
    if name in ("_", "__init__"):
        return True
    return bool(PLAIN_NAME.fullmatch(name)) and not name.startswith(BARRED_BEGINNINGS) and not BARRED_NAMES.fullmatch(name)


class Interface(unittest.TestCase):
    def test_each_name_is_defined_in_its_file(self):
        for module, names in INTERFACE.items():
            for name in names:
                with self.subTest(module=module, name=name):
                    self.assertEqual(getattr(importlib.import_module(module), name).__module__, module)

    def test_each_name_has_its_arguments(self):
        for module, names in INTERFACE.items():
            for name, arguments in names.items():
                with self.subTest(module=module, name=name):
                    found = inspect.signature(getattr(importlib.import_module(module), name))
                    self.assertEqual(str(found), arguments)

    def test_each_method_is_defined_in_its_class(self):
        for (module, name), methods in METHODS.items():
            for method, arguments in methods.items():
                with self.subTest(name=name, method=method):
                    found = vars(getattr(importlib.import_module(module), name))[method]
                    self.assertEqual((found.__module__, str(inspect.signature(found))), (module, arguments))

    def test_size_and_characters_of_the_files(self):
        for file in package_files():
            with self.subTest(file.name):
                lines = file.read_text(encoding="ascii").split("\n")
                self.assertLess(len(lines), 400)
                self.assertLessEqual(max(len(line) for line in lines), 120)
                self.assertNotIn("\t", "".join(lines))
                for node in ast.walk(ast.parse("\n".join(lines))):
                    if isinstance(node, ast.FunctionDef):
                        self.assertLessEqual(node.end_lineno - node.lineno + 1, 40, node.name)

    def test_names_are_plain(self):
        for name in ("low", "_low", "_", "__init__", "_make_rising", "_laying", "_recorder"):
            self.assertTrue(is_plain_name(name), name)
        for name in ("_lay_rising", "_wall", "_walls", "_law_of", "__low", "_9", "_cold", "_cold_1", "_record2", "_sre"):
            self.assertFalse(is_plain_name(name), name)
        for file in package_files():
            text = file.read_text(encoding="ascii")
            with self.subTest(file.name):
                self.assertEqual([name for name in names_of(ast.parse(text)) if not is_plain_name(name)], [])
                self.assertNotRegex(text, r"\b(_wall|_WallAttr)\b")

    def test_examples_of_the_document(self):
        found = doctest.testfile("examples.txt")
        self.assertGreater(found.attempted, 0)
        self.assertEqual(found.failed, 0)

    def test_examples_of_the_readme(self):
        readme = pathlib.Path(__file__).parent.parent / "README.md"
        found = doctest.testfile(str(readme), module_relative=False)
        self.assertGreater(found.attempted, 0)
        self.assertEqual(found.failed, 0)


if __name__ == "__main__":
    unittest.main()
