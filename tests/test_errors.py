import unittest

from firsthit.errors import BadRow, HitError, NoRay, NoShape, NotClosed

REFUSALS = (NoRay, NoShape, NotClosed, BadRow)


class Refusals(unittest.TestCase):
    def test_hit_error_stands_under_value_error(self):
        self.assertTrue(issubclass(HitError, ValueError))

    def test_each_stands_under_hit_error(self):
        for refusal in REFUSALS:
            with self.subTest(refusal=refusal):
                self.assertIsNot(refusal, HitError)
                self.assertTrue(issubclass(refusal, HitError))
                self.assertTrue(issubclass(refusal, ValueError))

    def test_none_stands_under_another(self):
        for one in REFUSALS:
            for other in REFUSALS:
                with self.subTest(one=one, other=other):
                    self.assertEqual(issubclass(one, other), one is other)

    def test_names(self):
        names = [refusal.__name__ for refusal in (HitError,) + REFUSALS]
        self.assertEqual(names, ["HitError", "NoRay", "NoShape", "NotClosed", "BadRow"])

    def test_str_is_the_text(self):
        for refusal in (HitError,) + REFUSALS:
            for text in ("a way of noughts", "", "two\nlines", "it's 'so'"):
                with self.subTest(refusal=refusal, text=text):
                    self.assertEqual(str(refusal(text)), text)

    def test_taken_as_a_value_error(self):
        for refusal in REFUSALS:
            with self.subTest(refusal=refusal):
                with self.assertRaises(ValueError) as taken:
                    raise refusal("told")
                self.assertEqual(str(taken.exception), "told")


if __name__ == "__main__":
    unittest.main()
