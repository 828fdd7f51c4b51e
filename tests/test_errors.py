"""Point [3] and the head emptyfirst/errors.py."""

import unittest

from emptyfirst import errors
from emptyfirst.errors import TalkError

NAMES = [
    "InvalidName", "InvalidStep", "DoubleStep", "UnknownName", "DoubleName", "DoubleLine", "OpenLine",
    "Ring", "NotPlain", "UnlikeLines", "NotOrderly", "NotThere", "NothingToUndo", "Unreadable",
]
CLASSES = [getattr(errors, name) for name in NAMES]
VALUES = [
    0, -1, 5, None, True, "", "a text", b"bytes", (), ("!", "a", "b", 9), [], ["a", "b"], {}, {"a": [1]},
    (["a"], ["b"]), ValueError("inner"), object(), TalkError,
]


class ErrorTest(unittest.TestCase):
    def test_talk_error_is_a_value_error(self):
        self.assertEqual(TalkError.__bases__, (ValueError,))

    def test_each_other_class_is_a_talk_error_and_of_no_other_class(self):
        for kind in CLASSES:
            self.assertTrue(issubclass(kind, TalkError))
            self.assertTrue(issubclass(kind, ValueError))
            for other in CLASSES:
                self.assertEqual(issubclass(kind, other), kind is other)
            self.assertFalse(issubclass(TalkError, kind))

    def test_names(self):
        for name, kind in zip(NAMES, CLASSES):
            self.assertEqual((kind.__name__, kind.__module__), (name, "emptyfirst.errors"))
        self.assertEqual(len(set(CLASSES)), 14)

    def test_value_is_kept_itself_by_position_and_by_name(self):
        for kind in [TalkError, *CLASSES]:
            for value in VALUES:
                self.assertIs(kind(value).value, value)
                self.assertIs(kind(value=value).value, value)

    def test_value_that_grows(self):
        for kind in [TalkError, *CLASSES]:
            rows, table = [1], {"a": 1}
            of_rows, of_table = kind(rows), kind(value=table)
            rows.append(2)
            table["b"] = 2
            self.assertEqual(of_rows.value, [1, 2])
            self.assertEqual(of_table.value, {"a": 1, "b": 2})
            self.assertIs(of_rows.value, rows)
            self.assertIs(of_table.value, table)

    def test_one_argument(self):
        for kind in [TalkError, *CLASSES]:
            self.assertRaises(TypeError, kind)
            self.assertRaises(TypeError, kind, 1, 2)
            self.assertRaises(TypeError, kind, 1, value=2)
            self.assertRaises(TypeError, kind, worth=2)

    def test_values_of_two_objects_are_apart(self):
        one, other = errors.Ring(1), errors.Ring(2)
        self.assertEqual((one.value, other.value), (1, 2))

    def test_raised_and_caught(self):
        for kind in [TalkError, *CLASSES]:
            for base in (kind, TalkError, ValueError):
                value = ["told"]
                try:
                    raise kind(value)
                except base as error:
                    self.assertIs(type(error), kind)
                    self.assertIs(error.value, value)

    def test_not_caught_by_another_class(self):
        for kind in CLASSES:
            for other in CLASSES:
                if other is not kind:
                    with self.assertRaises(kind):
                        try:
                            raise kind(0)
                        except other:
                            pass


if __name__ == "__main__":
    unittest.main()
