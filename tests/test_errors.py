"""Tests of [3]: the refusals."""

import unittest

from larderlist.errors import LarderError, Short, TooMuch


class Refusals(unittest.TestCase):
    def test_larder_error_stands_under_value_error(self):
        self.assertEqual(LarderError.__bases__, (ValueError,))

    def test_both_stand_below_larder_error(self):
        for refusal in (TooMuch, Short):
            with self.subTest(refusal=refusal):
                self.assertEqual(refusal.__bases__, (LarderError,))
                self.assertIsNot(refusal, LarderError)

    def test_neither_stands_under_the_other_one(self):
        self.assertFalse(issubclass(TooMuch, Short))
        self.assertFalse(issubclass(Short, TooMuch))

    def test_each_is_defined_in_its_file(self):
        for refusal in (LarderError, TooMuch, Short):
            with self.subTest(refusal=refusal):
                self.assertEqual(refusal.__module__, "larderlist.errors")

    def test_each_has_its_name_in_the_field_word(self):
        for refusal in (LarderError, TooMuch, Short):
            for word in ("a", "egg", "zzzzzzzz"):
                with self.subTest(refusal=refusal, word=word):
                    self.assertEqual(refusal(word).word, word)

    def test_the_field_belongs_to_the_object(self):
        first, second = Short("egg"), Short("milk")
        self.assertEqual((first.word, second.word), ("egg", "milk"))
        self.assertFalse(hasattr(LarderError, "word"))

    def test_each_is_made_with_just_a_name(self):
        for refusal in (LarderError, TooMuch, Short):
            with self.subTest(refusal=refusal):
                self.assertRaises(TypeError, refusal)
                self.assertRaises(TypeError, refusal, "egg", "milk")

    def test_each_is_caught_by_what_stands_above_it(self):
        for refusal in (LarderError, TooMuch, Short):
            for above in (refusal, LarderError, ValueError):
                with self.subTest(refusal=refusal, above=above):
                    with self.assertRaises(above) as caught:
                        raise refusal("flour")
                    self.assertEqual(caught.exception.word, "flour")

    def test_one_is_not_caught_as_the_other_one(self):
        for refusal, other in ((TooMuch, Short), (Short, TooMuch)):
            with self.subTest(refusal=refusal):
                with self.assertRaises(refusal):
                    try:
                        raise refusal("flour")
                    except other:
                        self.fail("caught as the other one")


if __name__ == "__main__":
    unittest.main()
