"""The classes of ringcrown.errors."""

import unittest

from ringcrown.errors import BadCount, BadRing, NoHand, NoMail, RingError

REFUSALS = (BadRing, NoHand, NoMail, BadCount)


class TestErrors(unittest.TestCase):
    def test_ring_error_stands_under_value_error(self):
        self.assertTrue(issubclass(RingError, ValueError))

    def test_ring_error_is_a_class_of_its_own(self):
        self.assertIsNot(RingError, ValueError)
        self.assertEqual(RingError.__name__, "RingError")

    def test_each_refusal_stands_right_under_ring_error(self):
        for refusal in REFUSALS:
            with self.subTest(refusal=refusal.__name__):
                self.assertEqual(refusal.__bases__, (RingError,))
                self.assertTrue(issubclass(refusal, ValueError))

    def test_no_refusal_stands_under_another(self):
        for refusal in REFUSALS:
            for other in REFUSALS:
                if refusal.__name__ != other.__name__:
                    with self.subTest(refusal=refusal.__name__, other=other.__name__):
                        self.assertFalse(issubclass(refusal, other))

    def test_names(self):
        names = [refusal.__name__ for refusal in REFUSALS]
        self.assertEqual(names, ["BadRing", "NoHand", "NoMail", "BadCount"])

    def test_each_is_defined_in_the_file_of_the_interface(self):
        for error in (RingError, *REFUSALS):
            with self.subTest(error=error.__name__):
                self.assertEqual(error.__module__, "ringcrown.errors")

    def test_raised_with_words_and_caught_as_ring_error(self):
        for refusal in REFUSALS:
            with self.subTest(refusal=refusal.__name__):
                with self.assertRaises(RingError) as caught:
                    raise refusal("no such thing")
                self.assertEqual(str(caught.exception), "no such thing")

    def test_a_value_error_of_another_kind_is_no_refusal(self):
        self.assertFalse(isinstance(ValueError("x"), RingError))


if __name__ == "__main__":
    unittest.main()
