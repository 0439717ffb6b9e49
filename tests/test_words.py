"""Promises 2, 3 and 5: encode, decode, through."""

import unittest

from tests.building import CONSTANT, DIGITS, SIGNED, WHOLE
from tests.building import decode, encode, face, field, last, run, through, with_parity

BIG = 1000000000000000000
PARITY = 2 ** 31


class Encode(unittest.TestCase):
    def test_the_parity_bit(self):
        one = face(0, field(1, WHOLE, 0, 4))
        self.assertEqual(run(one, encode(0, 0), encode(0, 1), encode(0, 3), encode(0, 7), encode(0, 15))[1:],
                         [[PARITY], [1], [3 + PARITY], [7], [15 + PARITY]])

    def test_no_fields(self):
        self.assertEqual(last(face(0), encode(0)), [PARITY])

    def test_each_kind(self):
        self.assertEqual(last(face(0, field(1, DIGITS, 3, 12)), encode(0, 905)), [with_parity(0x905 << 3)])
        self.assertEqual(last(face(0, field(1, SIGNED, 3, 6)), encode(0, -2)), [with_parity(62 << 3)])
        self.assertEqual(last(face(0, field(1, WHOLE, 3, 6)), encode(0, 42)), [with_parity(42 << 3)])
        self.assertEqual(last(face(0, field(1, CONSTANT, 3, 6, fixed=37)), encode(0)), [with_parity(37 << 3)])

    def test_numbers_are_in_the_order_of_the_told_fields(self):
        call = face(0, field(1, WHOLE, 20, 4), field(2, CONSTANT, 0, 3, fixed=5), field(3, WHOLE, 4, 4),
                    field(4, SIGNED, 24, 7))
        self.assertEqual(last(call, encode(0, 9, 6, -64)), [with_parity((9 << 20) + 5 + (6 << 4) + (64 << 24))])

    def test_the_scale_does_not_matter(self):
        self.assertEqual(last(face(0, field(1, WHOLE, 0, 4, 3, 7)), encode(0, 4)), [4])

    def fits(self, kind, width, least, most):
        for low in (0, 31 - width):
            one = face(0, field(1, kind, low, width))
            for number in (least, most):
                self.assertGreaterEqual(last(one, encode(0, number))[0], 0, (kind, width, number))
                word = last(one, encode(0, number))[0]
                self.assertEqual(last(one, decode(0, word)), [1, number])
            for number in (least - 1, most + 1, -BIG, BIG):
                self.assertEqual(last(one, encode(0, number)), [-7], (kind, width, number))

    def test_what_just_fits_a_whole_one(self):
        for width in (1, 2, 5, 30, 31):
            self.fits(WHOLE, width, 0, 2 ** width - 1)

    def test_what_just_fits_a_signed_one(self):
        for width in (2, 3, 8, 30, 31):
            self.fits(SIGNED, width, -2 ** (width - 1), 2 ** (width - 1) - 1)

    def test_what_just_fits_digits(self):
        for width in range(4, 32, 4):
            self.fits(DIGITS, width, 0, 10 ** (width // 4) - 1)

    def test_a_signed_one_of_width_2(self):
        one = face(0, field(1, SIGNED, 0, 2))
        self.assertEqual(run(one, encode(0, -2), encode(0, -1), encode(0, 0), encode(0, 1))[1:],
                         [[2], [3 + PARITY], [PARITY], [1]])

    def test_more_or_fewer_numbers(self):
        two = face(0, field(1, WHOLE, 0, 4), field(2, CONSTANT, 8, 2, fixed=1), field(3, WHOLE, 4, 4))
        self.assertEqual(last(two, encode(0, 1, 1)), [with_parity(0x111)])
        for numbers in ([], [1], [1, 1, 1], [1] * 40):
            self.assertEqual(last(two, encode(0, *numbers)), [-7])
        self.assertEqual(last(face(0), encode(0, 0)), [-7])

    def test_a_constant_takes_no_number(self):
        self.assertEqual(last(face(0, field(2, CONSTANT, 8, 2, fixed=1)), encode(0, 1)), [-7])

    def test_one_of_several_does_not_fit(self):
        two = face(0, field(1, WHOLE, 0, 4), field(3, DIGITS, 4, 4))
        self.assertEqual(last(two, encode(0, 15, 10)), [-7])
        self.assertEqual(last(two, encode(0, 16, 9)), [-7])

    def test_refusals_in_their_order(self):
        for i in (-1, 8, BIG, -BIG):
            self.assertEqual(last(encode(i, 1, 2, 3)), [-1])
        self.assertEqual(last(encode(0, 1, 2, 3)), [-2])
        self.assertEqual(last(face(0), encode(7)), [-2])
        self.assertEqual(last(face(7), encode(7)), [PARITY])


class Decode(unittest.TestCase):
    def test_each_kind(self):
        fields = face(0, field(1, WHOLE, 0, 4), field(2, SIGNED, 4, 4), field(3, DIGITS, 8, 8),
                      field(4, CONSTANT, 16, 4, fixed=6))
        self.assertEqual(last(fields, decode(0, with_parity(0x642FB))), [3, 11, -1, 42])
        self.assertEqual(last(fields, decode(0, with_parity(0x69988))), [3, 8, -8, 99])
        self.assertEqual(last(fields, decode(0, with_parity(0x6007F))), [3, 15, 7, 0])

    def test_no_told_field(self):
        self.assertEqual(last(face(0), decode(0, 1)), [0])
        self.assertEqual(last(face(0, field(4, CONSTANT, 16, 1, fixed=1)), decode(0, 1 << 16)), [0])

    def test_spare_bits_are_not_looked_at(self):
        self.assertEqual(last(face(0, field(1, WHOLE, 4, 4)), decode(0, with_parity(0x7FFFFF5F))), [1, 5])

    def test_even_ones(self):
        one = face(0, field(1, WHOLE, 0, 31))
        for word in (0, 3, 5, 1 + PARITY, 2 ** 32 - 1, 15):
            self.assertEqual(last(one, decode(0, word)), [-8], word)
        for word in (1, 7, PARITY, 2 ** 31 - 1, 2 ** 32 - 2):
            self.assertEqual(last(one, decode(0, word)), [1, word % 2 ** 31], word)

    def test_fours_of_more_than_9(self):
        for low in (0, 3, 23):
            one = face(0, field(1, DIGITS, low, 8))
            for bits in range(256):
                tens, ones = bits // 16, bits % 16
                expected = [-9] if tens > 9 or ones > 9 else [1, 10 * tens + ones]
                self.assertEqual(last(one, decode(0, with_parity(bits << low))), expected, bits)

    def test_wrong_constant(self):
        one = face(0, field(1, WHOLE, 0, 4), field(2, CONSTANT, 4, 3, fixed=5))
        for bits in range(8):
            expected = [1, 9] if bits == 5 else [-9]
            self.assertEqual(last(one, decode(0, with_parity((bits << 4) + 9))), expected)

    def test_even_ones_before_wrong_bits(self):
        one = face(0, field(2, CONSTANT, 4, 3, fixed=5), field(3, DIGITS, 8, 4))
        self.assertEqual(last(one, decode(0, 0)), [-8])
        self.assertEqual(last(one, decode(0, PARITY)), [-9])
        self.assertEqual(last(one, decode(0, (5 << 4) + (10 << 8))), [-8])
        self.assertEqual(last(one, decode(0, (5 << 4) + (10 << 8) + PARITY)), [-9])

    def test_refusals_in_their_order(self):
        for i in (-1, 8, BIG):
            self.assertEqual(last(decode(i, 1)), [-1])
        for word in (-1, 2 ** 32, BIG, -BIG):
            self.assertEqual(last(decode(0, word)), [-1])
            self.assertEqual(last(face(0), decode(0, word)), [-1])
        self.assertEqual(last(decode(0, 0)), [-2])
        self.assertEqual(last(face(0), decode(0, 0)), [-8])
        self.assertEqual(last(face(0), decode(0, 2 ** 32 - 2)), [0])
        self.assertEqual(last(face(0), decode(1, 1)), [-2])


class Through(unittest.TestCase):
    def test_read_by_the_same(self):
        one = face(3, field(1, SIGNED, 0, 5), field(2, DIGITS, 5, 8))
        self.assertEqual(last(one, through(3, 3, -16, 99)), [2, -16, 99])

    def test_read_by_another(self):
        a = face(0, field(1, WHOLE, 0, 8), field(2, SIGNED, 8, 4))
        b = face(1, field(1, DIGITS, 0, 8), field(2, WHOLE, 8, 5), field(3, WHOLE, 20, 4))
        self.assertEqual(last(a, b, through(0, 1, 0x47, -1)), [3, 47, 15, 0])
        self.assertEqual(last(a, b, through(1, 0, 47, 31, 3)), [2, 0x47, -1])
        self.assertEqual(last(a, face(2), through(0, 2, 1, 1)), [0])

    def test_constants(self):
        a = face(0, field(1, CONSTANT, 0, 8, fixed=0x2A), field(2, WHOLE, 8, 4))
        b = face(1, field(1, DIGITS, 0, 4))
        c = face(2, field(1, DIGITS, 4, 4), field(9, CONSTANT, 8, 2, fixed=1))
        self.assertEqual(run(a, b, c, through(0, 1, 5), through(0, 2, 5), through(0, 2, 6))[3:],
                         [[-9], [1, 2], [-9]])

    def test_refusals_in_their_order(self):
        a = face(0, field(1, WHOLE, 0, 4))
        b = face(1, field(1, DIGITS, 0, 4), field(2, CONSTANT, 4, 1, fixed=1))
        for i in (-1, 8, BIG):
            self.assertEqual(last(through(i, 5, 99)), [-1])
            self.assertEqual(last(through(5, i, 99)), [-1])
        self.assertEqual(last(a, through(0, 2, 99)), [-2])
        self.assertEqual(last(a, through(2, 0, 99)), [-2])
        for numbers in ([], [16], [-1], [1, 1], [0] * 40):
            self.assertEqual(last(a, b, through(0, 1, *numbers)), [-7])
        self.assertEqual(last(a, b, through(0, 1, 9)), [-9])
        self.assertEqual(last(a, b, through(1, 0, 9)), [1, 9])

    def test_numbers_are_by_the_one_that_makes(self):
        a = face(0, field(1, WHOLE, 0, 4))
        b = face(1, field(1, WHOLE, 0, 2), field(2, WHOLE, 2, 2))
        self.assertEqual(run(a, b, through(0, 1, 14), through(0, 1, 1, 1), through(1, 0, 14), through(1, 0, 2, 3))[2:],
                         [[2, 2, 3], [-7], [-7], [1, 14]])


if __name__ == "__main__":
    unittest.main()
