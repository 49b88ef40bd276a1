import unittest

from leasehold.errors import Back, BadTerms, LeaseError, NoKeeper, NotAsked

REFUSALS = (BadTerms, Back, NoKeeper, NotAsked)


class ErrorsTest(unittest.TestCase):
    def test_lease_error_stands_straight_below_value_error(self):
        self.assertEqual(LeaseError.__bases__, (ValueError,))

    def test_each_refusal_stands_straight_below_lease_error(self):
        for refusal in REFUSALS:
            with self.subTest(refusal=refusal.__name__):
                self.assertEqual(refusal.__bases__, (LeaseError,))

    def test_each_refusal_is_taken_as_lease_error_and_as_value_error(self):
        for refusal in REFUSALS:
            for taken in (refusal, LeaseError, ValueError):
                with self.subTest(refusal=refusal.__name__, taken=taken.__name__):
                    with self.assertRaises(taken):
                        raise refusal("words")

    def test_no_refusal_is_another(self):
        for one in REFUSALS:
            for other in REFUSALS:
                with self.subTest(one=one.__name__, other=other.__name__):
                    self.assertEqual(issubclass(one, other), one.__name__ == other.__name__)

    def test_each_class_bears_its_name(self):
        names = [each.__name__ for each in (LeaseError,) + REFUSALS]
        self.assertEqual(names, ["LeaseError", "BadTerms", "Back", "NoKeeper", "NotAsked"])

    def test_an_error_keeps_its_words(self):
        for refusal in REFUSALS:
            with self.subTest(refusal=refusal.__name__):
                self.assertEqual(str(refusal("words")), "words")


if __name__ == "__main__":
    unittest.main()
