"""Promises 6 and 7: value and nearest."""

import unittest
from fractions import Fraction

from tests.building import CONSTANT, DIGITS, SIGNED, WHOLE
from tests.building import face, field, last, nearest, run, value

BIG = 1000000000000000000
MOST = 1000000000000


class Value(unittest.TestCase):
    def test_lowest_terms(self):
        one = face(0, field(7, SIGNED, 0, 8, 6, 4))
        self.assertEqual(run(one, value(0, 7, 1), value(0, 7, 2), value(0, 7, -3), value(0, 7, -128))[1:],
                         [[0, 3, 2], [0, 3, 1], [0, -9, 2], [0, -192, 1]])

    def test_zero(self):
        self.assertEqual(last(face(0, field(7, SIGNED, 0, 8, 6, 1000000)), value(0, 7, 0)), [0, 0, 1])
        self.assertEqual(last(face(0, field(7, CONSTANT, 0, 8, 6, 35)), value(0, 7, 0)), [0, 0, 1])

    def test_scales_at_the_ends(self):
        self.assertEqual(last(face(0, field(7, WHOLE, 0, 31, 1000000, 1)), value(0, 7, 2 ** 31 - 1)),
                         [0, (2 ** 31 - 1) * 1000000, 1])
        self.assertEqual(last(face(0, field(7, WHOLE, 0, 31, 1, 1000000)), value(0, 7, 2 ** 31 - 1)),
                         [0, 2 ** 31 - 1, 1000000])
        self.assertEqual(last(face(0, field(7, WHOLE, 0, 31, 999999, 1000000)), value(0, 7, 1000000)),
                         [0, 999999, 1])

    def test_many_scales(self):
        for num in (1, 2, 12, 35, 999983):
            for den in (1, 3, 12, 30, 1000000):
                one = face(0, field(7, SIGNED, 0, 12, num, den))
                for number in (-2048, -36, -1, 1, 5, 60, 2047):
                    right = Fraction(number * num, den)
                    self.assertEqual(last(one, value(0, 7, number)), [0, right.numerator, right.denominator])

    def test_constants_have_their_names(self):
        one = face(0, field(1, WHOLE, 0, 2), field(7, CONSTANT, 8, 4, 5, 3, 12))
        self.assertEqual(run(one, value(0, 7, 12), value(0, 7, 11), value(0, 7, 28))[1:], [[0, 20, 1], [-11], [-11]])

    def test_the_field_is_found_by_its_name(self):
        one = face(0, field(3, WHOLE, 0, 2, 1, 2), field(0, WHOLE, 2, 2, 1, 3), field(99, WHOLE, 4, 2, 1, 5))
        self.assertEqual(run(one, value(0, 3, 1), value(0, 0, 1), value(0, 99, 1))[1:],
                         [[0, 1, 2], [0, 1, 3], [0, 1, 5]])

    def test_numbers_that_do_not_fit(self):
        fields = face(0, field(1, WHOLE, 0, 3), field(2, SIGNED, 3, 3), field(3, DIGITS, 8, 8))
        for name, least, most in ((1, 0, 7), (2, -4, 3), (3, 0, 99)):
            self.assertEqual(last(fields, value(0, name, least)), [0, least, 1])
            self.assertEqual(last(fields, value(0, name, most)), [0, most, 1])
            for number in (least - 1, most + 1, -BIG, BIG):
                self.assertEqual(last(fields, value(0, name, number)), [-11])

    def test_refusals_in_their_order(self):
        one = face(0, field(1, WHOLE, 0, 3))
        for i in (-1, 8, BIG):
            self.assertEqual(last(one, value(i, 2, 99)), [-1])
        self.assertEqual(last(one, value(1, 2, 99)), [-2])
        for name in (0, 2, -1, 100, BIG, -BIG):
            self.assertEqual(last(one, value(0, name, 99)), [-10])
            self.assertEqual(last(one, value(0, name, 1)), [-10])
        self.assertEqual(last(face(0), value(0, 0, 0)), [-10])


class Nearest(unittest.TestCase):
    def check(self, num, den, p, q, number):
        self.assertEqual(last(face(0, field(7, SIGNED, 0, 31, num, den)), nearest(0, 7, p, q)), [0, number],
                         (num, den, p, q))

    def test_exact(self):
        self.check(1, 10, 7, 10, 7)
        self.check(3, 2, -9, 2, -3)
        self.check(1, 1, 0, 5, 0)

    def test_above_and_below(self):
        self.check(1, 1, 7, 3, 2)
        self.check(1, 1, 8, 3, 3)
        self.check(1, 1, -7, 3, -2)
        self.check(1, 1, -8, 3, -3)

    def test_two_as_near(self):
        for p, number in ((1, 0), (3, 2), (5, 2), (7, 4), (-1, 0), (-3, -2), (-5, -2), (-7, -4)):
            self.check(1, 1, p, 2, number)
            self.check(1, 1, 3 * p, 6, number)
            self.check(2, 1, p, 1, number)
            self.check(1, 2, p, 4, number)

    def test_hardly_beside_the_middle(self):
        half = MOST // 2
        self.check(1, 1, half - 1, MOST, 0)
        self.check(1, 1, half, MOST, 0)
        self.check(1, 1, half + 1, MOST, 1)
        self.check(1, 1, -half - 1, MOST, -1)
        self.check(1, 1, -half, MOST, 0)

    def test_against_rounding_of_fractions(self):
        for num, den in ((1, 1), (3, 7), (1000000, 1), (1, 1000000), (999999, 1000000)):
            for p in (-MOST, -999, -10, -3, 0, 1, 4, 77, 1001, MOST):
                for q in (1000, 4, 6, 99991, MOST):
                    right = round(Fraction(p * den, q * num))
                    expected = [0, right] if -2 ** 30 <= right < 2 ** 30 else [-11]
                    self.assertEqual(last(face(0, field(7, SIGNED, 0, 31, num, den)), nearest(0, 7, p, q)), expected)

    def test_whether_it_fits(self):
        fields = face(0, field(1, WHOLE, 0, 3), field(2, SIGNED, 3, 3), field(3, DIGITS, 8, 8),
                      field(4, CONSTANT, 16, 4, 1, 1, 5))
        for name, least, most in ((1, 0, 7), (2, -4, 3), (3, 0, 99), (4, 5, 5)):
            self.assertEqual(last(fields, nearest(0, name, 10 * least - 4, 10)), [0, least])
            self.assertEqual(last(fields, nearest(0, name, 10 * most + 4, 10)), [0, most])
            self.assertEqual(last(fields, nearest(0, name, 10 * least - 6, 10)), [-11])
            self.assertEqual(last(fields, nearest(0, name, 10 * most + 6, 10)), [-11])

    def test_the_even_one_is_taken_before_it_is_asked_whether_it_fits(self):
        fields = face(0, field(1, WHOLE, 0, 3), field(4, CONSTANT, 16, 4, 1, 1, 5), field(5, CONSTANT, 20, 4, 1, 1, 6))
        self.assertEqual(last(fields, nearest(0, 1, 15, 2)), [-11])
        self.assertEqual(last(fields, nearest(0, 1, -1, 2)), [0, 0])
        self.assertEqual(last(fields, nearest(0, 4, 9, 2)), [-11])
        self.assertEqual(last(fields, nearest(0, 4, 11, 2)), [-11])
        self.assertEqual(last(fields, nearest(0, 5, 11, 2)), [0, 6])

    def test_ends_of_the_ranges(self):
        one = face(0, field(7, SIGNED, 0, 31, 1000000, 1))
        self.assertEqual(last(one, nearest(0, 7, MOST, 1)), [0, 1000000])
        self.assertEqual(last(one, nearest(0, 7, -MOST, 1)), [0, -1000000])
        self.assertEqual(last(one, nearest(0, 7, MOST, MOST)), [0, 0])
        for p, q in ((MOST + 1, 1), (-MOST - 1, 1), (1, 0), (1, -1), (1, MOST + 1), (BIG, 1), (-BIG, 1), (1, BIG)):
            self.assertEqual(last(one, nearest(0, 7, p, q)), [-1], (p, q))

    def test_refusals_in_their_order(self):
        one = face(0, field(1, WHOLE, 0, 3))
        for i in (-1, 8, BIG):
            self.assertEqual(last(one, nearest(i, 2, 99, 1)), [-1])
        self.assertEqual(last(nearest(0, 2, 99, 0)), [-1])
        self.assertEqual(last(one, nearest(0, 2, MOST + 1, 1)), [-1])
        self.assertEqual(last(one, nearest(1, 2, 99, 1)), [-2])
        for name in (0, 2, -1, 100, BIG, -BIG):
            self.assertEqual(last(one, nearest(0, name, 99, 1)), [-10])
        self.assertEqual(last(one, nearest(0, 1, 99, 1)), [-11])


if __name__ == "__main__":
    unittest.main()
