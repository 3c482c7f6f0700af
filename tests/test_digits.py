"""Point 7: numbers are told and read whatever their digits; compared with int and str freed of their limit."""
import itertools
import sys
import unittest

from berthline.digits import number_of, text_of

# About the width of a piece, twice that width, and the most digits that int and str usually take.
COUNTS = (1, 2, 599, 600, 601, 1199, 1200, 1201, 4299, 4300, 4301, 6000)


def unlimited(deed, value):
    """What int or str tells of the value without a limit of digits."""
    limit = sys.get_int_max_str_digits()
    sys.set_int_max_str_digits(0)
    try:
        return deed(value)
    finally:
        sys.set_int_max_str_digits(limit)


def read(word):
    try:
        return unlimited(int, word)
    except ValueError:
        return None


def numbers():
    for count in COUNTS:
        power = 10 ** count
        yield from (power - 1, power, power + 1, power // 7, power * power + 5, 3 ** (2 * count))


class DigitsTest(unittest.TestCase):
    def setUp(self):
        # The least limit that Python can be set to: the program is not to depend on it.
        self.addCleanup(sys.set_int_max_str_digits, sys.get_int_max_str_digits())
        sys.set_int_max_str_digits(sys.int_info.str_digits_check_threshold)


class TextTest(DigitsTest):
    def test_small_numbers(self):
        for number in range(-1100, 1100):
            self.assertEqual(text_of(number), str(number))

    def test_numbers_of_many_digits(self):
        for number in numbers():
            self.assertTrue(text_of(number) == unlimited(str, number))
            self.assertTrue(text_of(-number) == unlimited(str, -number))

    def test_noughts_within(self):
        for count in range(590, 1210):
            self.assertEqual(text_of(10 ** count), "1" + "0" * count)
            self.assertEqual(text_of(10 ** count + 1), "1" + "0" * (count - 1) + "1")


class NumberTest(DigitsTest):
    def test_small_numbers(self):
        for number in range(-1100, 1100):
            self.assertEqual(number_of(str(number)), number)

    def test_numbers_of_many_digits(self):
        for number in numbers():
            for told in (number, -number):
                self.assertTrue(number_of(unlimited(str, told)) == told)

    def test_noughts_ahead(self):
        for count in COUNTS:
            self.assertEqual(number_of("0" * count), 0)
            self.assertEqual(number_of("0" * count + "12"), 12)
            self.assertEqual(number_of("-" + "0" * count + "12"), -12)

    def test_the_same_short_words_as_int(self):
        for count in range(6):
            for signs in itertools.product("+-_01.x\u0663\u00b2", repeat=count):
                word = "".join(signs)
                self.assertEqual(number_of(word), read(word), repr(word))

    def test_the_same_long_words_as_int(self):
        ends = ("", "+", "-", "_", "__", "1", "-1", "+_", "_1", "x", ".", "\u0663", "\u00b2")
        for count in (598, 599, 600, 601, 1200, 5000):
            for ahead, behind in itertools.product(ends, repeat=2):
                word = ahead + "7" * count + behind
                self.assertTrue(number_of(word) == read(word), (count, ahead, behind))

    def test_a_wrong_sign_wherever_it_stands(self):
        for wrong in ("+", "-", "__", "x", ".", "\u00b2"):
            for place in range(1, 1300, 3):
                self.assertIsNone(number_of("7" * place + wrong + "7" * (1300 - place)), (wrong, place))

    def test_a_single_mark_between_digits_wherever_it_stands(self):
        number = unlimited(int, "7" * 1300)
        for place in range(1, 1300, 3):
            self.assertTrue(number_of("7" * place + "_" + "7" * (1300 - place)) == number)

    def test_one_mark_between_all_digits(self):
        self.assertTrue(number_of("_".join("7" * 1300)) == unlimited(int, "7" * 1300))


if __name__ == "__main__":
    unittest.main()
