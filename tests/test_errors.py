"""Point 2 and the interface: the sixteen classes."""

import unittest

from earthward import errors
from refusals import CLASSES, NAMES


class ErrorClasses(unittest.TestCase):
    def test_the_base_is_a_value_error(self):
        self.assertEqual(errors.WardError.__bases__, (ValueError,))

    def test_there_are_fifteen_under_it(self):
        self.assertEqual(len(set(CLASSES.values())), 15)
        for name in NAMES:
            with self.subTest(name=name):
                self.assertEqual(CLASSES[name].__name__, name)
                self.assertTrue(issubclass(CLASSES[name], errors.WardError))

    def test_none_stands_under_another_one(self):
        for name in NAMES:
            above = [other for other in NAMES if issubclass(CLASSES[name], CLASSES[other])]
            self.assertEqual(above, [name])

    def test_each_can_be_raised_and_taken_as_the_base(self):
        for name in NAMES:
            with self.subTest(name=name), self.assertRaises(errors.WardError):
                raise CLASSES[name]("words")


if __name__ == "__main__":
    unittest.main()
