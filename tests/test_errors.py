import unittest

from anycut import errors
from anycut.errors import CutError

NAMES = [
    "InvalidName", "DoubleName", "InvalidStep", "InvalidState", "UnknownCall", "UnlikeCalls", "EmptyBatch",
    "InvalidLength", "NothingToUndo", "Unreadable",
]


class Errors(unittest.TestCase):
    def classes(self):
        return [CutError] + [getattr(errors, name) for name in NAMES]

    def test_all_are_subclasses_of_the_one_base_alone(self):
        self.assertEqual(CutError.__bases__, (ValueError,))
        for kind in self.classes()[1:]:
            self.assertEqual(kind.__bases__, (CutError,))

    def test_value_by_position_and_by_name_is_kept_itself(self):
        for kind in self.classes():
            for value in [[1], "word", None, (1, None), 0, {"a": []}]:
                self.assertIs(kind(value).value, value)
                self.assertIs(kind(value=value).value, value)

    def test_one_argument(self):
        for kind in self.classes():
            self.assertRaises(TypeError, kind)
            self.assertRaises(TypeError, kind, 1, 2)

    def test_they_can_be_raised_and_caught(self):
        for kind in self.classes():
            with self.assertRaises(ValueError) as caught:
                raise kind("word")
            self.assertEqual(caught.exception.value, "word")

    def test_they_are_unlike_classes(self):
        self.assertEqual(len(set(self.classes())), 11)
