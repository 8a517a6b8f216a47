import unittest

from pursehall import errors

BELOW = ["BadMachine", "BadRow", "BadPrices", "BadModel", "BadForm"]


class Errors(unittest.TestCase):
    def test_the_refusal_above_all_is_a_value_error(self):
        self.assertEqual(errors.PurseError.__bases__, (ValueError,))

    def test_each_stands_below_it(self):
        for name in BELOW:
            with self.subTest(name):
                self.assertTrue(issubclass(getattr(errors, name), errors.PurseError))

    def test_none_stands_below_another(self):
        for name in BELOW:
            for other in BELOW:
                if name != other:
                    with self.subTest(name=name, other=other):
                        self.assertFalse(issubclass(getattr(errors, name), getattr(errors, other)))

    def test_each_can_be_raised_with_words(self):
        for name in BELOW:
            with self.subTest(name), self.assertRaises(ValueError):
                raise getattr(errors, name)("words")


if __name__ == "__main__":
    unittest.main()
