"""Promise 1: face."""

import unittest

from tests.building import CONSTANT, DIGITS, SIGNED, WHOLE
from tests.building import compare, decode, encode, face, face_of, field, last, run, value

BIG = 1000000000000000000


class Answers(unittest.TestCase):
    def test_no_fields(self):
        self.assertEqual(last(face(0)), [31])

    def test_spare_bits_are_counted(self):
        self.assertEqual(last(face(3, field(1, WHOLE, 2, 5), field(2, CONSTANT, 20, 3, fixed=7))), [23])

    def test_all_bits_taken(self):
        self.assertEqual(last(face(0, field(1, WHOLE, 0, 31))), [0])

    def test_twelve_fields(self):
        fields = [field(k, WHOLE, 2 * k, 2) for k in range(12)]
        self.assertEqual(last(face(7, *fields)), [7])

    def test_fields_in_any_order(self):
        self.assertEqual(last(face(0, field(9, WHOLE, 16, 8), field(1, WHOLE, 0, 16))), [7])

    def test_every_number_of_an_interface(self):
        self.assertEqual(run(*[face(i, field(i, WHOLE, 0, i + 1)) for i in range(8)]),
                         [[30 - i] for i in range(8)])


class OutOfRange(unittest.TestCase):
    def test_interface_number(self):
        for i in (-1, 8, BIG, -BIG):
            self.assertEqual(last(face(i, field(1, WHOLE, 0, 1))), [-1], i)

    def test_both_ends_of_each_range(self):
        right = [[0, WHOLE, 0, 1, 1, 1, 0], [99, WHOLE, 0, 1, 1, 1, 0],
                 [1, WHOLE, 30, 1, 1, 1, 0], [1, WHOLE, 0, 31, 1, 1, 0],
                 [1, WHOLE, 0, 1, 1000000, 1, 0], [1, WHOLE, 0, 1, 1, 1000000, 0],
                 [1, CONSTANT, 0, 31, 1, 1, 2147483647], [1, CONSTANT, 0, 1, 1, 1, 0]]
        for numbers in right:
            self.assertEqual(last(face(0, numbers)), [31 - numbers[3]], numbers)

    def test_beyond_both_ends_of_each_range(self):
        ends = [(0, 99), (0, 3), (0, 30), (1, 31), (1, 1000000), (1, 1000000), (0, 2147483647)]
        for place, (least, most) in enumerate(ends):
            for wrong in (least - 1, most + 1, -BIG, BIG):
                numbers = [1, WHOLE, 0, 4, 1, 1, 0]
                numbers[place] = wrong
                self.assertEqual(last(face(0, numbers)), [-1], numbers)
                self.assertEqual(last(face(0, field(2, WHOLE, 20, 2), numbers)), [-1], numbers)

    def test_lists_of_wrong_lengths(self):
        row = [number for k in range(13) for number in field(k, WHOLE, 2 * k, 2)] + [1] * 9
        for length in range(101):
            right = length % 7 == 0 and length <= 84
            expected = [31 - 2 * (length // 7)] if right else [-1]
            self.assertEqual(last(face_of(0, row[:length])), expected, length)

    def test_looked_at_ahead_of_all_others(self):
        bad = field(1, SIGNED, 30, 2, fixed=1)
        self.assertEqual(last(face(0, bad, bad)), [-3])
        self.assertEqual(last(face(8, bad, bad)), [-1])
        self.assertEqual(last(face(0, bad, bad, field(100, WHOLE, 0, 1))), [-1])
        self.assertEqual(last(face(0, bad, bad, field(1, WHOLE, 0, 1, den=0))), [-1])


class TooHigh(unittest.TestCase):
    def test_end_of_31_and_32(self):
        for low in range(31):
            self.assertEqual(last(face(0, field(1, WHOLE, low, 31 - low))), [low], low)
        for low in range(1, 31):
            self.assertEqual(last(face(0, field(1, WHOLE, low, 32 - low))), [-3], low)

    def test_all_kinds(self):
        for kind, width in ((WHOLE, 4), (SIGNED, 4), (DIGITS, 4), (CONSTANT, 4)):
            self.assertEqual(last(face(0, field(1, kind, 27, width))), [27])
            self.assertEqual(last(face(0, field(1, kind, 28, width))), [-3])

    def test_of_any_field_before_wrong_width_of_any(self):
        self.assertEqual(last(face(0, field(1, SIGNED, 0, 1), field(2, WHOLE, 30, 2))), [-3])
        self.assertEqual(last(face(0, field(1, DIGITS, 29, 3))), [-3])

    def test_before_shared_bits_and_names(self):
        self.assertEqual(last(face(0, field(1, WHOLE, 30, 2), field(1, WHOLE, 30, 1))), [-3])


class WrongWidthOrFixed(unittest.TestCase):
    def test_signed_width(self):
        self.assertEqual(last(face(0, field(1, SIGNED, 0, 1))), [-4])
        self.assertEqual(last(face(0, field(1, SIGNED, 0, 2))), [29])
        self.assertEqual(last(face(0, field(1, SIGNED, 0, 31))), [0])

    def test_digits_width(self):
        for width in range(1, 32):
            expected = [31 - width] if width % 4 == 0 else [-4]
            self.assertEqual(last(face(0, field(1, DIGITS, 0, width))), expected, width)

    def test_width_1_of_the_others(self):
        self.assertEqual(last(face(0, field(1, WHOLE, 0, 1), field(2, CONSTANT, 1, 1, fixed=1))), [29])

    def test_fixed_of_a_constant(self):
        for width in range(1, 31):
            full = 1 << width
            self.assertEqual(last(face(0, field(1, CONSTANT, 0, width, fixed=full - 1))), [31 - width])
            self.assertEqual(last(face(0, field(1, CONSTANT, 0, width, fixed=full))), [-4])

    def test_fixed_of_other_kinds(self):
        for kind in (WHOLE, SIGNED, DIGITS):
            self.assertEqual(last(face(0, field(1, kind, 0, 4, fixed=1))), [-4])
            self.assertEqual(last(face(0, field(1, kind, 0, 4, fixed=2147483647))), [-4])

    def test_in_any_field(self):
        self.assertEqual(last(face(0, field(1, WHOLE, 0, 4), field(2, DIGITS, 4, 5))), [-4])

    def test_before_shared_bits_and_names(self):
        wrong = field(1, DIGITS, 0, 5)
        self.assertEqual(last(face(0, field(1, WHOLE, 0, 4), wrong)), [-4])
        self.assertEqual(last(face(0, field(2, WHOLE, 0, 4), field(3, WHOLE, 0, 4), wrong)), [-4])


class Shared(unittest.TestCase):
    def test_bits(self):
        self.assertEqual(last(face(0, field(1, WHOLE, 0, 4), field(2, WHOLE, 4, 4))), [23])
        self.assertEqual(last(face(0, field(1, WHOLE, 0, 5), field(2, WHOLE, 4, 4))), [-5])
        self.assertEqual(last(face(0, field(2, WHOLE, 4, 4), field(1, WHOLE, 0, 5))), [-5])
        self.assertEqual(last(face(0, field(1, WHOLE, 0, 31), field(2, CONSTANT, 12, 1))), [-5])

    def test_bits_of_fields_that_are_not_neighbours(self):
        self.assertEqual(last(face(0, field(1, WHOLE, 8, 2), field(2, WHOLE, 0, 2), field(3, WHOLE, 9, 2))), [-5])

    def test_names(self):
        self.assertEqual(last(face(0, field(5, WHOLE, 0, 4), field(5, WHOLE, 4, 4))), [-6])
        self.assertEqual(last(face(0, field(5, WHOLE, 0, 4), field(6, WHOLE, 8, 2), field(5, CONSTANT, 4, 4))), [-6])

    def test_bits_before_names(self):
        self.assertEqual(last(face(0, field(5, WHOLE, 0, 4), field(5, WHOLE, 3, 4))), [-5])
        self.assertEqual(last(face(0, field(5, WHOLE, 8, 1), field(5, WHOLE, 9, 1),
                                   field(6, WHOLE, 0, 2), field(7, WHOLE, 1, 1))), [-5])


class Kept(unittest.TestCase):
    def test_in_place_of_an_older_one(self):
        answers = run(face(2, field(1, WHOLE, 0, 4)), encode(2, 5), face(2, field(9, SIGNED, 4, 4)),
                      encode(2, 5), encode(2, -1), value(2, 1, 5), value(2, 9, 5))
        self.assertEqual(answers, [[27], [5 + 2 ** 31], [27], [80 + 2 ** 31], [-1 % 16 * 16 + 2 ** 31],
                                   [-10], [0, 5, 1]])

    def test_in_place_of_an_older_one_by_one_without_fields(self):
        self.assertEqual(run(face(2, field(1, WHOLE, 0, 4)), face(2), encode(2), encode(2, 1)),
                         [[27], [31], [2 ** 31], [-7]])

    def test_a_refusal_leaves_the_older_one(self):
        wrong = [face(1, field(1, WHOLE, 0, 32)), face_of(1, [1, 2, 3]), face(1, field(1, WHOLE, 30, 2)),
                 face(1, field(1, SIGNED, 0, 1)), face(1, field(1, WHOLE, 0, 2), field(2, WHOLE, 1, 1)),
                 face(1, field(1, WHOLE, 0, 2), field(1, WHOLE, 2, 1))]
        for call, refusal in zip(wrong, (-1, -1, -3, -4, -5, -6)):
            self.assertEqual(run(face(1, field(4, WHOLE, 0, 3)), call, encode(1, 7), decode(1, 7)),
                             [[28], [refusal], [7], [1, 7]])

    def test_a_refusal_makes_no_interface(self):
        self.assertEqual(run(face(1, field(1, SIGNED, 0, 1)), encode(1), compare(1, 1)), [[-4], [-2], [-2]])

    def test_interfaces_do_not_hang_on_one_another(self):
        self.assertEqual(run(face(0, field(1, WHOLE, 0, 3)), face(1, field(1, WHOLE, 1, 3)), encode(0, 7),
                             encode(1, 7)), [[28], [28], [7], [14]])


if __name__ == "__main__":
    unittest.main()
