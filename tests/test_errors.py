"""The errors: their base classes, and the value that each one keeps."""

import unittest

from matchlines import errors
from matchlines.errors import MatchError

ATTRIBUTES = {
    "BadLine": "value",
    "BadPrice": "value",
    "BadNumber": "value",
    "BadSpan": "value",
    "BadText": "value",
    "BadCommand": "command",
    "UnknownLine": "row_id",
    "TakenId": "row_id",
    "TakenLine": "row_id",
    "Unpaired": "amount",
    "NothingToDo": "action",
}


def kept_values():
    """Values of every kind; those that can be changed show whether the value itself is kept."""
    return [None, True, False, 0, -7, 10 ** 29, "", "undo", "two\nlines", (), (1, 0, 100), (1, [2]), [], [1, [2]], {}, {"a": [1]}]


class ErrorsTest(unittest.TestCase):
    def test_match_error_is_a_value_error(self):
        self.assertEqual(MatchError.__bases__, (ValueError,))

    def test_the_others_are_direct_subclasses_of_match_error(self):
        for name in ATTRIBUTES:
            with self.subTest(name):
                self.assertEqual(getattr(errors, name).__bases__, (MatchError,))

    def test_all_are_defined_in_the_file(self):
        for name in ["MatchError", *ATTRIBUTES]:
            with self.subTest(name):
                self.assertEqual(getattr(errors, name).__module__, "matchlines.errors")
                self.assertEqual(getattr(errors, name).__name__, name)

    def test_the_argument_is_kept_itself_by_position(self):
        for name, attribute in ATTRIBUTES.items():
            for value in kept_values():
                with self.subTest(name, value=value):
                    error = getattr(errors, name)(value)
                    self.assertEqual(vars(error), {attribute: value})
                    self.assertIs(getattr(error, attribute), value)

    def test_the_argument_is_kept_itself_by_name(self):
        for name, attribute in ATTRIBUTES.items():
            for value in kept_values():
                with self.subTest(name, value=value):
                    error = getattr(errors, name)(**{attribute: value})
                    self.assertEqual(vars(error), {attribute: value})
                    self.assertIs(getattr(error, attribute), value)

    def test_each_takes_exactly_its_argument(self):
        for name, attribute in ATTRIBUTES.items():
            with self.subTest(name):
                made = getattr(errors, name)
                self.assertRaises(TypeError, made)
                self.assertRaises(TypeError, made, 1, 2)
                self.assertRaises(TypeError, lambda: made(**{attribute: 1, "more": 2}))

    def test_each_is_raised_and_caught(self):
        for name, attribute in ATTRIBUTES.items():
            value = [name]
            for caught in (getattr(errors, name), MatchError, ValueError):
                with self.subTest(name, caught=caught):
                    with self.assertRaises(caught) as context:
                        raise getattr(errors, name)(value)
                    self.assertIs(getattr(context.exception, attribute), value)

    def test_none_is_caught_as_another_one(self):
        for name in ATTRIBUTES:
            for other in ATTRIBUTES:
                if name != other:
                    self.assertNotIsInstance(getattr(errors, name)(1), getattr(errors, other))


if __name__ == "__main__":
    unittest.main()
