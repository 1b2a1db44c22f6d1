"""Tests of fewtell.ratios."""

import unittest
from fractions import Fraction

from fewtell import ratios
from fewtell.ratios import is_less, is_ratio, minus, over, plus, ratio, ratio_text, times

BIG = 10 ** 31 - 1
SAMPLE = [
    (0, 1), (1, 1), (-1, 1), (2, 1), (-7, 1), (1, 2), (-1, 2), (3, 2), (2, 3), (-2, 3), (5, 6), (-5, 6), (7, 12),
    (BIG, 1), (-BIG, 1), (1, BIG), (-1, BIG), (BIG, BIG - 1), (1 - BIG, BIG), (BIG - 1, BIG - 2),
    (1234567890123456789012345678901, 9876543210987654321098765432109), (2 ** 100, 3 ** 60), (-(3 ** 64), 2 ** 102),
]


def pair(value):
    return (value.numerator, value.denominator)


class TestRatio(unittest.TestCase):
    def check(self, given, wanted):
        self.assertEqual(given, wanted)
        self.assertIs(given.__class__, tuple)
        self.assertEqual([item.__class__ for item in given], [int, int])

    def test_lowest_terms(self):
        self.check(ratio(6, 4), (3, 2))
        self.check(ratio(3, 2), (3, 2))
        self.check(ratio(4, 2), (2, 1))
        self.check(ratio(5, 5), (1, 1))
        self.check(ratio(12, 18), (2, 3))

    def test_below_zero(self):
        self.check(ratio(-6, 4), (-3, 2))
        self.check(ratio(6, -4), (-3, 2))
        self.check(ratio(-6, -4), (3, 2))
        self.check(ratio(1, -1), (-1, 1))
        self.check(ratio(-7, 7), (-1, 1))

    def test_zero(self):
        self.check(ratio(0, 7), (0, 1))
        self.check(ratio(0, -7), (0, 1))
        self.check(ratio(0), (0, 1))

    def test_bottom_may_be_omitted(self):
        self.check(ratio(5), (5, 1))
        self.check(ratio(-5), (-5, 1))

    def test_by_name(self):
        self.check(ratio(bottom=9, top=3), (1, 3))
        self.check(ratio(top=8), (8, 1))
        self.check(ratio(8, bottom=6), (4, 3))

    def test_many_digits(self):
        self.check(ratio(2 * BIG, 2), (BIG, 1))
        self.check(ratio(BIG, -BIG), (-1, 1))
        self.check(ratio(BIG * 7, (BIG - 1) * 7), (BIG, BIG - 1))
        self.check(ratio(BIG ** 3, BIG ** 2), (BIG, 1))

    def test_like_the_fractions_of_python(self):
        for top in range(-12, 13):
            for bottom in range(-12, 13):
                if bottom:
                    with self.subTest(top=top, bottom=bottom):
                        self.check(ratio(top, bottom), pair(Fraction(top, bottom)))


class TestSums(unittest.TestCase):
    def test_all_pairs(self):
        for one in SAMPLE:
            for other in SAMPLE:
                with self.subTest(one=one, other=other):
                    mine, its = Fraction(*one), Fraction(*other)
                    self.assertEqual(plus(one, other), pair(mine + its))
                    self.assertEqual(minus(one, other), pair(mine - its))
                    self.assertEqual(times(one, other), pair(mine * its))
                    self.assertIs(is_less(one, other), mine < its)
                    if other != (0, 1):
                        self.assertEqual(over(one, other), pair(mine / its))

    def test_by_hand(self):
        self.assertEqual(plus((1, 2), (1, 6)), (2, 3))
        self.assertEqual(minus((1, 2), (2, 3)), (-1, 6))
        self.assertEqual(times((2, 3), (-3, 4)), (-1, 2))
        self.assertEqual(over((1, 2), (-3, 4)), (-2, 3))
        self.assertEqual(over((0, 1), (-3, 4)), (0, 1))
        self.assertEqual(minus((1, 2), (1, 2)), (0, 1))
        self.assertIs(is_less((-1, 2), (-1, 3)), True)
        self.assertIs(is_less((1, 3), (1, 3)), False)
        self.assertIs(is_less((1, 2), (1, 3)), False)

    def test_by_name(self):
        self.assertEqual(plus(other=(1, 3), one=(1, 1)), (4, 3))
        self.assertEqual(minus(other=(1, 3), one=(1, 1)), (2, 3))
        self.assertEqual(times(other=(1, 3), one=(2, 1)), (2, 3))
        self.assertEqual(over(other=(1, 3), one=(2, 1)), (6, 1))
        self.assertIs(is_less(other=(1, 3), one=(2, 1)), False)
        self.assertIs(is_ratio(value=(1, 3)), True)
        self.assertEqual(ratio_text(value=(1, 3)), "1/3")

    def test_what_was_returned_may_be_passed(self):
        value = (BIG, BIG - 1)
        for _ in range(4):
            value = times(value, value)
        self.assertEqual(value, (BIG ** 16, (BIG - 1) ** 16))
        self.assertIs(is_ratio(value), True)
        self.assertEqual(minus(value, value), ratios.ZERO)

    def test_values_of_the_file(self):
        self.assertEqual(ratios.ZERO, (0, 1))
        self.assertEqual(ratios.ONE, (1, 1))


class TestIsRatio(unittest.TestCase):
    def test_fractions(self):
        for value in SAMPLE:
            with self.subTest(value=value):
                self.assertIs(is_ratio(value), True)

    def test_other_values(self):
        others = [
            None, True, False, 0, 1, "", "1/2", "ab", (), [], (1,), (1, 2, 1), [1, 2], [1, 1], [0, 1],
            (True, 1), (1, True), (False, 1), (0, True), (True, True), (None, 1), (1, None), ("1", 2), (1, "2"),
            (2, 4), (-2, 4), (3, 3), (0, 2), (0, BIG), (BIG, BIG),
            (1, 0), (0, 0), (-1, 0), (1, -2), (-1, -2), (0, -1), (1, -1),
            ((1, 2),), ((1, 2), 1), (1, (1, 2)), ((1, 2), (1, 2)), ([1], 2), (1, [2]), [(1, 2)], ((1,), (2,)),
        ]
        for value in others:
            with self.subTest(value=value):
                self.assertIs(is_ratio(value), False)

    def test_what_ratio_returns(self):
        for top in range(-6, 7):
            for bottom in (-4, -3, -1, 1, 2, 9):
                self.assertIs(is_ratio(ratio(top, bottom)), True)


class TestText(unittest.TestCase):
    def test_whole_numbers(self):
        self.assertEqual(ratio_text((0, 1)), "0")
        self.assertEqual(ratio_text((12, 1)), "12")
        self.assertEqual(ratio_text((-3, 1)), "-3")
        self.assertEqual(ratio_text((BIG, 1)), "9" * 31)

    def test_fractions(self):
        self.assertEqual(ratio_text((1, 2)), "1/2")
        self.assertEqual(ratio_text((-7, 12)), "-7/12")
        self.assertEqual(ratio_text((3, 10)), "3/10")
        self.assertEqual(ratio_text((-1, BIG)), "-1/" + "9" * 31)

    def test_many_digits(self):
        for many in (319, 320, 321, 640, 4299, 4300, 4301, 9000):
            top = 1
            for _ in range(many):
                top *= 10
            self.assertEqual(ratio_text((top, 1)), "1" + "0" * many)
            self.assertEqual(ratio_text((top - 1, 1)), "9" * many)
            self.assertEqual(ratio_text((-top - 1, 1)), "-1" + "0" * (many - 1) + "1")
            self.assertEqual(ratio_text((1 - top, top)), "-" + "9" * many + "/1" + "0" * many)


if __name__ == "__main__":
    unittest.main()
