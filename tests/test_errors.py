"""Tests of rungrepeats/errors.py: promise [3]."""

import unittest

from rungrepeats import errors

NAMES = [
    "InvalidRow", "InvalidSize", "InvalidPost", "InvalidNumber", "Taken", "OffRule", "NothingToUndo", "Unreadable",
]
BELOW = [getattr(errors, name) for name in NAMES]
ALL = [errors.RungError] + BELOW
VALUES = [
    None, True, False, 0, -7, 10 ** 30, "", "-.-", [], ["-.", [1]], (), (1, [2]), {}, {"a": [1]},
    object(), ValueError("x"),
]


class ErrorTests(unittest.TestCase):
    def test_value_by_position_is_the_very_object(self):
        for kind in ALL:
            for value in VALUES:
                self.assertIs(kind(value).value, value, kind)

    def test_value_by_name_is_the_very_object(self):
        for kind in ALL:
            for value in VALUES:
                self.assertIs(kind(value=value).value, value, kind)

    def test_value_that_is_raised_is_the_very_object(self):
        for kind in ALL:
            for value in VALUES:
                with self.assertRaises(kind) as caught:
                    raise kind(value)
                self.assertIs(caught.exception.value, value)

    def test_a_list_that_changes_later_is_still_the_value(self):
        told = [1]
        error = errors.InvalidRow(told)
        told.append(2)
        self.assertEqual(error.value, [1, 2])

    def test_two_errors_of_one_class_have_values_of_their_own(self):
        for kind in ALL:
            first, second = kind(1), kind(2)
            self.assertEqual((first.value, second.value), (1, 2))

    def test_base_is_directly_below_value_error(self):
        self.assertEqual(errors.RungError.__bases__, (ValueError,))

    def test_each_other_class_is_directly_below_the_base(self):
        for kind in BELOW:
            self.assertEqual(kind.__bases__, (errors.RungError,), kind)

    def test_no_class_is_below_another_one(self):
        for one in BELOW:
            for other in BELOW:
                self.assertEqual(issubclass(one, other), one is other)

    def test_names_and_file(self):
        for name, kind in zip(["RungError"] + NAMES, ALL):
            self.assertEqual((kind.__name__, kind.__module__), (name, "rungrepeats.errors"))

    def test_raised_is_caught_as_base_and_as_value_error(self):
        for kind in ALL:
            for caught_as in (kind, errors.RungError, ValueError):
                with self.assertRaises(caught_as):
                    raise kind(1)

    def test_raised_is_not_caught_as_another_class(self):
        for kind in BELOW:
            for other in BELOW:
                if other is not kind:
                    try:
                        raise kind(1)
                    except other:
                        self.fail((kind, other))
                    except errors.RungError as error:
                        self.assertIs(error.__class__, kind)

    def test_one_argument_is_asked_for(self):
        for kind in ALL:
            self.assertRaises(TypeError, kind)
            self.assertRaises(TypeError, kind, 1, 2)


if __name__ == "__main__":
    unittest.main()
