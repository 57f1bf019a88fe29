"""The errors of the interface."""

import unittest

from tellsnone import errors
from tellsnone.errors import BadBound, BadCall, BadPaper, BadPlayer, BadStep, BadText, PlayError, TooLarge

CLASSES = (BadText, BadPaper, BadCall, BadPlayer, BadStep, BadBound, TooLarge)


class TestErrors(unittest.TestCase):

    def test_base_class(self):
        self.assertTrue(issubclass(PlayError, ValueError))
        for kind in CLASSES:
            with self.subTest(kind=kind):
                self.assertTrue(issubclass(kind, PlayError))
                self.assertIsNot(kind, PlayError)

    def test_no_class_is_a_base_class_of_another_one(self):
        for kind in CLASSES:
            for other in CLASSES:
                if kind is not other:
                    self.assertFalse(issubclass(kind, other), (kind, other))

    def test_defined_in_this_file(self):
        for kind in (PlayError, *CLASSES):
            self.assertEqual(kind.__module__, errors.__name__)

    def test_attributes(self):
        self.assertEqual(BadText(7).at, 7)
        self.assertEqual(BadPaper(0).at, 0)
        self.assertEqual(BadStep("swap").rule, "swap")
        self.assertEqual(TooLarge("ways").what, "ways")

    def test_attributes_belong_to_the_object(self):
        first, second = BadText(1), BadText(2)
        self.assertEqual((first.at, second.at), (1, 2))
        for kind, name in ((BadText, "at"), (BadPaper, "at"), (BadStep, "rule"), (TooLarge, "what")):
            self.assertFalse(hasattr(kind, name))

    def test_each_can_be_raised_and_caught_by_the_base_class(self):
        made = (BadText(0), BadPaper(0), BadCall("c"), BadPlayer("p"), BadStep("fold"), BadBound("b"), TooLarge("ways"))
        for error in made:
            with self.assertRaises(PlayError) as caught:
                raise error
            self.assertIs(caught.exception, error)


if __name__ == "__main__":
    unittest.main()
