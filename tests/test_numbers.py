"""Promise [3]: numbers, how they are reckoned with, ordered, written and read."""

import re
import unittest
from fractions import Fraction
from itertools import product
from math import gcd

from surecues import numbers
from surecues.errors import NumberError
from surecues.numbers import (compare, format_number, minus, number, over, plus, read_number,
                              times)

HUGE = 10 ** 5000
ZERO = (0, 1)
ONE = (1, 1)
ORDINARY = [ZERO, ONE, (-1, 1), (1, 2), (-1, 2), (1, 3), (-2, 3), (3, 4), (5, 6), (7, 1), (-12, 1),
            (999999999, 999999998)]
VERY_LARGE = [(HUGE, 1), (-HUGE, 1), (1, HUGE), (-1, HUGE + 1), (HUGE + 1, HUGE),
              (-(3 ** 4000), 2 ** 6000)]
SAMPLES = ORDINARY + VERY_LARGE


def pair(fraction):
    return fraction.numerator, fraction.denominator


class Reckoning(unittest.TestCase):
    def same(self, found, expected):
        # assertEqual would write the numbers, and Python does not write very long ones.
        self.assertTrue(found == expected)
        self.assertIs(type(found), tuple)
        self.assertEqual([type(part) for part in found], [int, int])

    def test_number_gives_lowest_terms(self):
        for top, bottom in product(range(-12, 13), range(-12, 13)):
            if bottom != 0:
                self.same(number(top, bottom), pair(Fraction(top, bottom)))

    def test_number_of_certain_fractions(self):
        for top, bottom, expected in [(1, 2, (1, 2)), (2, 4, (1, 2)), (4, 2, (2, 1)),
                                      (0, 7, (0, 1)), (0, -7, (0, 1)), (1, -2, (-1, 2)),
                                      (-1, -2, (1, 2)), (-6, 4, (-3, 2)), (6, -3, (-2, 1))]:
            self.same(number(top, bottom), expected)

    def test_number_of_very_large_fractions(self):
        self.same(number(HUGE * 6, HUGE * -4), (-3, 2))
        self.same(number(HUGE + 1, HUGE), (HUGE + 1, HUGE))
        self.same(number(0, -HUGE), (0, 1))
        self.same(number(2 ** 20000, 2 ** 20001), (1, 2))

    def test_a_number_has_no_bottom_of_0(self):
        for top in [0, 1, -1, 5, HUGE]:
            with self.assertRaises(NumberError):
                number(top, 0)

    def test_sums_differences_and_products(self):
        for first, second in product(SAMPLES, SAMPLES):
            left, right = Fraction(*first), Fraction(*second)
            self.same(plus(first, second), pair(left + right))
            self.same(minus(first, second), pair(left - right))
            self.same(times(first, second), pair(left * right))

    def test_quotients(self):
        for first, second in product(SAMPLES, SAMPLES):
            if second != ZERO:
                self.same(over(first, second), pair(Fraction(*first) / Fraction(*second)))

    def test_certain_results(self):
        self.same(plus((1, 2), (1, 2)), (1, 1))
        self.same(plus((1, 6), (1, 3)), (1, 2))
        self.same(plus((1, 2), (-1, 2)), (0, 1))
        self.same(minus((1, 2), (3, 4)), (-1, 4))
        self.same(minus((5, 1), (5, 1)), (0, 1))
        self.same(times((-2, 3), (3, 2)), (-1, 1))
        self.same(times((0, 1), (-3, 2)), (0, 1))
        self.same(over((1, 2), (-1, 4)), (-2, 1))
        self.same(over((0, 1), (-3, 4)), (0, 1))

    def test_nothing_is_divided_by_0(self):
        for first in SAMPLES:
            with self.assertRaises(NumberError):
                over(first, ZERO)

    def test_nothing_is_rounded(self):
        total = ZERO
        for bottom in range(1, 200):
            total = plus(total, (1, bottom))
        for bottom in range(1, 200):
            total = minus(total, (1, bottom))
        self.same(total, ZERO)
        self.same(minus(plus((HUGE, 1), (1, HUGE)), (HUGE, 1)), (1, HUGE))


class Rules(unittest.TestCase):
    def test_the_order_of_two_does_not_matter(self):
        for a, b in product(SAMPLES, SAMPLES):
            self.assertTrue(plus(a, b) == plus(b, a))
            self.assertTrue(times(a, b) == times(b, a))

    def test_the_grouping_of_three_does_not_matter(self):
        for a, b, c in product(SAMPLES[::2], SAMPLES[::2], SAMPLES[::2]):
            self.assertTrue(plus(plus(a, b), c) == plus(a, plus(b, c)))
            self.assertTrue(times(times(a, b), c) == times(a, times(b, c)))

    def test_products_go_over_sums(self):
        for a, b, c in product(ORDINARY, ORDINARY, ORDINARY):
            self.assertEqual(times(a, plus(b, c)), plus(times(a, b), times(a, c)))
            self.assertEqual(times(a, minus(b, c)), minus(times(a, b), times(a, c)))

    def test_what_is_taken_away_can_be_put_back(self):
        for a, b in product(SAMPLES, SAMPLES):
            self.assertTrue(plus(minus(a, b), b) == a)
            self.assertTrue(minus(plus(a, b), b) == a)
            if b != ZERO:
                self.assertTrue(times(over(a, b), b) == a)
                self.assertTrue(over(times(a, b), b) == a)

    def test_0_and_1_change_nothing(self):
        for a in SAMPLES:
            self.assertTrue(plus(a, ZERO) == minus(a, ZERO) == times(a, ONE) == over(a, ONE) == a)
            self.assertEqual(minus(a, a), ZERO)
            self.assertEqual(times(a, ZERO), ZERO)


class Order(unittest.TestCase):
    def test_compare(self):
        for first, second in product(SAMPLES, SAMPLES):
            left, right = Fraction(*first), Fraction(*second)
            expected = -1 if left < right else 1 if left > right else 0
            found = compare(first, second)
            self.assertEqual(found, expected)
            self.assertIs(type(found), int)

    def test_certain_orders(self):
        for first, second, expected in [((1, 3), (1, 2), -1), ((1, 2), (1, 3), 1),
                                        ((-1, 2), (-1, 3), -1), ((-1, 3), (-1, 2), 1),
                                        ((-1, 2), (1, 3), -1), ((0, 1), (-1, 9), 1),
                                        ((2, 3), (2, 3), 0), ((0, 1), (0, 1), 0),
                                        ((5, 2), (7, 3), 1), ((3, 1), (20, 7), 1)]:
            self.assertEqual(compare(first, second), expected, (first, second))

    def test_numbers_that_are_very_near_to_each_other(self):
        self.assertEqual(compare((HUGE + 1, HUGE), (HUGE + 2, HUGE + 1)), 1)
        self.assertEqual(compare((10 ** 20 + 1, 10 ** 20), ONE), 1)
        self.assertEqual(compare((1, HUGE), ZERO), 1)


class Writing(unittest.TestCase):
    def test_ordinary_numbers(self):
        for value, expected in [((0, 1), "0"), ((4, 1), "4"), ((-4, 1), "-4"), ((1, 2), "1/2"),
                                ((-5, 6), "-5/6"), ((10, 1), "10"), ((100, 101), "100/101"),
                                ((-1000000000, 1), "-1000000000"),
                                ((999999999, 1000000000), "999999999/1000000000")]:
            self.assertEqual(format_number(value), expected)

    def test_very_large_numbers(self):
        self.assertEqual(format_number((HUGE, 1)), "1" + "0" * 5000)
        self.assertEqual(format_number((-HUGE - 7, 1)), "-1" + "0" * 4999 + "7")
        self.assertEqual(format_number((HUGE - 1, HUGE)), "9" * 5000 + "/1" + "0" * 5000)

    def test_numbers_of_each_length(self):
        for length in range(1, 700):
            self.assertEqual(format_number((10 ** length, 1)), "1" + "0" * length)
            self.assertEqual(format_number((-1, 10 ** length - 1)), "-1/" + "9" * length)
            self.assertEqual(format_number((10 ** length + 1, 1)), "1" + "0" * (length - 1) + "1")


def expected_of(word):
    """What read_number has to return for a word, told in another way."""
    found = re.fullmatch("(0|-?[1-9][0-9]{0,8})(?:/([1-9][0-9]{0,8}))?", word)
    if found is None:
        return None
    top, bottom = int(found[1]), int(found[2] or 1)
    if found[2] == "1" or gcd(top, bottom) != 1 or (top == 0 and found[2]):
        return None
    return top, bottom


class Reading(unittest.TestCase):
    def test_words_that_write_numbers(self):
        for word, expected in [("0", (0, 1)), ("4", (4, 1)), ("-4", (-4, 1)), ("1/2", (1, 2)),
                               ("-5/6", (-5, 6)), ("10", (10, 1)), ("100/101", (100, 101))]:
            self.assertEqual(read_number(word), expected, word)

    def test_nine_digits_above_and_below(self):
        for word, expected in [("999999999", (999999999, 1)), ("-999999999", (-999999999, 1)),
                               ("1/999999999", (1, 999999999)),
                               ("999999998/999999999", (999999998, 999999999)),
                               ("-100000000/999999999", (-100000000, 999999999))]:
            self.assertEqual(read_number(word), expected, word)

    def test_ten_digits_are_too_many(self):
        for word in ["1000000000", "-1000000000", "9999999999", "1/1000000000", "-1/1000000000",
                     "1000000000/3", "1000000001/1000000000", "0000000001", "1" * 5000,
                     "1/" + "3" * 5000]:
            self.assertIsNone(read_number(word), word[:20])

    def test_words_that_are_not_so_written(self):
        for word in ["", "-", "/", "-/", "1/", "/2", "-/2", "2/4", "3/3", "0/1", "0/2", "1/0", "0/0",
                     "5/1", "-5/1", "-0", "-0/1", "00", "01", "-01", "01/2", "1/02", "-007", "1/-2",
                     "-1/-2", "1/+2", "+1", "+0", "--1", "1-", "1/2/3", "1//2", "1/2/", " 1", "1 ",
                     "1 /2", "1/ 2", "- 1", "1\n", "\n1", "1/2\n", "1\n/2", "1.5", "1.0", ".5", "1e3",
                     "1_0", "1,0", "0x1", "a", "one", "1a", "a1", "1/a", "(1, 2)", "None", "~", "1:2",
                     "\u0661", "\u00b2", "1/\u00b3"]:
            self.assertIsNone(read_number(word), repr(word))

    def test_all_short_words(self):
        for length in range(6):
            for letters in product("-/012 +", repeat=length):
                word = "".join(letters)
                self.assertEqual(read_number(word), expected_of(word), repr(word))

    def test_what_is_written_is_read_back(self):
        for top, bottom in product(range(-40, 41), range(1, 41)):
            value = number(top, bottom)
            self.assertEqual(read_number(format_number(value)), value)
        for value in ORDINARY:
            self.assertEqual(read_number(format_number(value)), value)

    def test_what_is_written_with_more_digits_is_not_read_back(self):
        for value in VERY_LARGE + [(10 ** 9, 1), (-(10 ** 9), 1), (1, 10 ** 9)]:
            self.assertIsNone(read_number(format_number(value)))


class Interface(unittest.TestCase):
    def test_the_examples_of_the_document(self):
        found = plus(number(1, 2), number(1, 3)), over((1, 2), (-3, 4)), compare((1, 3), (1, 2))
        self.assertEqual(found, ((5, 6), (-2, 3), -1))
        found = format_number((-5, 6)), read_number("4"), read_number("2/4"), read_number("-0")
        self.assertEqual(found, ("-5/6", (4, 1), None, None))

    def test_the_names_of_the_arguments(self):
        self.assertEqual(number(top=2, bottom=4), (1, 2))
        for function in [plus, minus, times, over]:
            self.assertEqual(function(first=(1, 2), second=(1, 3)), function((1, 2), (1, 3)))
        self.assertEqual(compare(first=(1, 2), second=(1, 3)), 1)
        self.assertEqual(format_number(value=(1, 2)), "1/2")
        self.assertEqual(read_number(word="1/2"), (1, 2))

    def test_all_are_defined_in_this_file(self):
        for function in [number, plus, minus, times, over, compare, format_number, read_number]:
            self.assertEqual(function.__module__, numbers.__name__)


if __name__ == "__main__":
    unittest.main()
