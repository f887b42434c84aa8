import unittest

from askedorder import errors
from tests.values import odd_values

NAMES = {
    "InvalidKeys": "index", "InvalidQuestion": "question", "InvalidAnswer": "answer",
    "InvalidAnswers": "index", "InvalidOrder": "index", "InvalidLengths": "index",
    "InvalidBlocks": "index", "InvalidNumber": "name", "InvalidHeap": "index",
    "NothingAsked": "count", "NotFinished": "count", "RowChanged": "count",
    "TooLarge": "limit", "Mismatch": "name",
}


class Errors(unittest.TestCase):
    def test_sort_error_stands_directly_under_value_error(self):
        self.assertEqual(errors.SortError.__bases__, (ValueError,))

    def test_each_error_stands_directly_under_sort_error(self):
        for name in NAMES:
            with self.subTest(name):
                self.assertEqual(getattr(errors, name).__bases__, (errors.SortError,))

    def test_there_are_no_other_errors(self):
        found = {name for name, value in vars(errors).items() if isinstance(value, type)}
        self.assertEqual(found, set(NAMES) | {"SortError"})

    def test_made_by_position_any_value_is_kept(self):
        for name, attribute in NAMES.items():
            for value in odd_values():
                error = getattr(errors, name)(value)
                self.assertIs(getattr(error, attribute), value)

    def test_made_by_keyword_any_value_is_kept(self):
        for name, attribute in NAMES.items():
            for value in odd_values():
                error = getattr(errors, name)(**{attribute: value})
                self.assertIs(getattr(error, attribute), value)

    def test_no_other_arguments(self):
        for name in NAMES:
            with self.subTest(name):
                for args, named in [((), {}), ((1, 2), {}), ((), {"other": 1})]:
                    with self.assertRaises(TypeError):
                        getattr(errors, name)(*args, **named)

    def test_any_error_can_be_shown(self):
        for name in NAMES:
            for value in odd_values():
                error = getattr(errors, name)(value)
                self.assertIsInstance(str(error) + repr(error), str)

    def test_raised_and_caught_from_above(self):
        for name, attribute in NAMES.items():
            for above in (getattr(errors, name), errors.SortError, ValueError):
                with self.assertRaises(above) as caught:
                    raise getattr(errors, name)("value")
                self.assertEqual(getattr(caught.exception, attribute), "value")


if __name__ == "__main__":
    unittest.main()
