import unittest

from lowwater import errors

WITH_TEXT = ["NoQuotient", "TooGreat", "NoText", "NotSecond", "NotStraight", "TooMany", "NoLine"]


class Errors(unittest.TestCase):
    def test_base(self):
        self.assertTrue(issubclass(errors.LowwaterError, ValueError))
        self.assertEqual(errors.LowwaterError.__bases__, (ValueError,))

    def test_each_stands_under_the_base_alone(self):
        for name in WITH_TEXT + ["NoRow"]:
            with self.subTest(name):
                refusal = getattr(errors, name)
                self.assertEqual(refusal.__bases__, (errors.LowwaterError,))
                for other in WITH_TEXT + ["NoRow"]:
                    self.assertEqual(issubclass(refusal, getattr(errors, other)), name == other)

    def test_made_with_a_text(self):
        for name in WITH_TEXT:
            with self.subTest(name):
                refusal = getattr(errors, name)
                for made in (refusal("words"), refusal(text="words")):
                    self.assertIsInstance(made, errors.LowwaterError)
                    self.assertIsInstance(made, ValueError)
                    self.assertEqual(str(made), "words")
                with self.assertRaises(errors.LowwaterError):
                    raise refusal("words")

    def test_no_row_has_its_field(self):
        for number in (0, 3, 299):
            self.assertEqual(errors.NoRow(number).row, number)
            self.assertEqual(errors.NoRow(row=number).row, number)
        with self.assertRaises(ValueError) as caught:
            raise errors.NoRow(7)
        self.assertEqual(caught.exception.row, 7)


if __name__ == "__main__":
    unittest.main()
