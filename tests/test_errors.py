import unittest

from foldkeep import errors
from foldkeep.errors import FoldError, NoScript


class Errors(unittest.TestCase):
    def test_fold_error_is_a_value_error(self):
        self.assertTrue(issubclass(FoldError, ValueError))
        self.assertEqual(FoldError.__bases__, (ValueError,))

    def test_each_error_is_a_class_of_its_own_below_fold_error(self):
        names = ["NotPossible", "NotNow", "NoSuchDevice", "NoSuchLetter", "NoKeeper", "NoScript"]
        classes = [getattr(errors, name) for name in names]
        self.assertEqual(len(set(classes)), len(names))
        for name, error in zip(names, classes):
            self.assertEqual(error.__name__, name)
            self.assertEqual(error.__bases__, (FoldError,))

    def test_errors_can_be_raised_with_and_without_a_text(self):
        for name in ["FoldError", "NotPossible", "NotNow", "NoSuchDevice", "NoSuchLetter", "NoKeeper"]:
            error = getattr(errors, name)
            with self.assertRaises(ValueError):
                raise error("why")
            with self.assertRaises(FoldError):
                raise error()

    def test_no_error_is_caught_as_another_one(self):
        with self.assertRaises(errors.NotNow):
            try:
                raise errors.NotNow("why")
            except errors.NotPossible:
                self.fail("NotNow is not NotPossible")

    def test_no_script_tells_the_line(self):
        with self.assertRaises(NoScript) as caught:
            raise NoScript(7)
        self.assertEqual(caught.exception.line, 7)
        self.assertEqual(NoScript(1).line, 1)


if __name__ == "__main__":
    unittest.main()
