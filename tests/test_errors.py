"""The classes of refusals, promise 5."""

import unittest

from unlikesteps import errors

NAMES = (
    "NoBoard", "NoLay", "NoNumber", "NoPoints", "NoPoint", "NoPaper", "NoUnlike", "NoPrime",
    "NoRoot", "NoTurn", "TooFew", "TooMany", "NoText", "NoLine", "NoDeed",
)


class ErrorsTest(unittest.TestCase):
    def test_step_error_stands_under_value_error(self):
        self.assertTrue(issubclass(errors.StepError, ValueError))
        self.assertIsNot(errors.StepError, ValueError)

    def test_each_class_stands_under_step_error_and_no_other(self):
        for name in NAMES:
            own = getattr(errors, name)
            self.assertTrue(issubclass(own, errors.StepError), name)
            self.assertIsNot(own, errors.StepError, name)
            for other in NAMES:
                if other != name:
                    self.assertFalse(issubclass(own, getattr(errors, other)), (name, other))

    def test_each_class_is_made_with_a_text(self):
        for name in ("StepError",) + NAMES:
            made = getattr(errors, name)("the words")
            self.assertIsInstance(made, ValueError)
            self.assertEqual(str(made), "the words")

    def test_each_class_is_taken_by_its_bases(self):
        for name in NAMES:
            for base in (errors.StepError, ValueError):
                with self.assertRaises(base):
                    raise getattr(errors, name)("the words")


if __name__ == "__main__":
    unittest.main()
