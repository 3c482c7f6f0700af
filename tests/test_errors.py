import unittest

from berthline.errors import NoRoom, NoShip, QuayError, Twice


class ErrorsTest(unittest.TestCase):
    def test_any_refusal_is_a_value_error(self):
        self.assertEqual(QuayError.__bases__, (ValueError,))

    def test_each_refusal_stands_under_quay_error(self):
        for refusal in (NoRoom, Twice, NoShip):
            with self.subTest(refusal=refusal.__name__):
                self.assertEqual(refusal.__bases__, (QuayError,))

    def test_refusals_do_not_stand_under_each_other(self):
        refusals = (NoRoom, Twice, NoShip)
        for one in refusals:
            for other in refusals:
                with self.subTest(one=one.__name__, other=other.__name__):
                    self.assertEqual(issubclass(one, other), one is other)

    def test_each_can_be_raised_with_words_and_taken_as_any_refusal(self):
        for refusal in (QuayError, NoRoom, Twice, NoShip):
            with self.subTest(refusal=refusal.__name__):
                with self.assertRaises(QuayError) as taken:
                    raise refusal("refused")
                self.assertEqual(str(taken.exception), "refused")


if __name__ == "__main__":
    unittest.main()
