"""The interface: names, arguments, and the files that define them."""

import inspect
import unittest
from importlib import import_module

FUNCTIONS = {
    "words": {"words_of": ["text"], "paragraphs_of": ["text"], "is_word": ["text"]},
    "measure": {"size_of": ["words", "begin", "end"], "long_word": ["words", "width"]},
    "breaks": {
        "lines_of": ["words", "starts"],
        "sum_of": ["words", "width", "starts"],
        "quick_starts": ["words", "width"],
    },
    "least": {"table_of": ["words", "width"], "best_starts": ["words", "width"]},
    "counted": {"starts_in": ["words", "width", "many"]},
    "layout": {
        "wrapped": ["text", "width"],
        "squared": ["text", "width"],
        "spread_line": ["words", "width"],
    },
}
CLASSES = {
    "errors": [
        "WrapError", "NoWidth", "LongWord", "NoStarts", "TooWide", "TooFew",
        "TooMany", "NoPlace", "NoWord", "Full", "NoWayBack",
    ],
    "page": ["Page"],
}
PAGE_METHODS = {
    "__init__": ["self", "width"],
    "put": ["self", "at", "word"],
    "widen": ["self", "width"],
    "undo": ["self"],
    "drop": ["self", "at"],
    "words_now": ["self"],
    "width_now": ["self"],
    "table_now": ["self"],
    "starts_now": ["self"],
    "lines_now": ["self"],
}


class InterfaceTest(unittest.TestCase):
    def test_functions_have_their_arguments(self):
        for file, functions in FUNCTIONS.items():
            module = import_module(f"textwrapper.{file}")
            for name, arguments in functions.items():
                with self.subTest(f"{file}.{name}"):
                    told = inspect.signature(getattr(module, name)).parameters
                    self.assertEqual(list(told), arguments)

    def test_functions_are_defined_in_their_file(self):
        for file, functions in FUNCTIONS.items():
            module = import_module(f"textwrapper.{file}")
            for name in functions:
                with self.subTest(f"{file}.{name}"):
                    self.assertEqual(getattr(module, name).__module__, f"textwrapper.{file}")

    def test_classes_are_defined_in_their_file(self):
        for file, names in CLASSES.items():
            module = import_module(f"textwrapper.{file}")
            for name in names:
                with self.subTest(f"{file}.{name}"):
                    self.assertTrue(inspect.isclass(getattr(module, name)))
                    self.assertEqual(getattr(module, name).__module__, f"textwrapper.{file}")

    def test_a_page_has_its_methods_itself(self):
        page = import_module("textwrapper.page").Page
        for name, arguments in PAGE_METHODS.items():
            with self.subTest(name):
                self.assertIn(name, vars(page))
                self.assertEqual(list(inspect.signature(vars(page)[name]).parameters), arguments)

    def test_the_most_words_of_a_page(self):
        self.assertIs(type(import_module("textwrapper.page").MOST_WORDS), int)
        self.assertEqual(import_module("textwrapper.page").MOST_WORDS, 120)


if __name__ == "__main__":
    unittest.main()
