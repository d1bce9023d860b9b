import unittest

from stepjudge import errors

NAMES = ["TooLong", "NoForm", "NoPlace", "Full", "NoRow", "NoName", "NoShape", "NoneYet", "NotSo"]


class ErrorsTest(unittest.TestCase):
    def test_step_error_is_a_value_error(self):
        self.assertEqual(errors.StepError.__bases__, (ValueError,))

    def test_each_refusal_stands_straight_under_step_error(self):
        for name in NAMES:
            with self.subTest(name=name):
                self.assertEqual(getattr(errors, name).__bases__, (errors.StepError,))

    def test_no_refusal_stands_under_another(self):
        classes = [getattr(errors, name) for name in NAMES]
        for one in classes:
            for other in classes:
                self.assertEqual(issubclass(one, other), one is other)

    def test_each_is_raised_with_words(self):
        for name in NAMES:
            with self.subTest(name=name), self.assertRaises(errors.StepError) as caught:
                raise getattr(errors, name)("some words")
            self.assertEqual(str(caught.exception), "some words")


if __name__ == "__main__":
    unittest.main()
