"""Promise 4, as far as it speaks of count and spare."""

import itertools
import unittest

from tests.building import CONSTANT, DIGITS, SIGNED, WHOLE
from tests.building import count, drop, encode, face, face_of, field, last, run, spare

BIG = 1000000000000000000
ALL = 2 ** 31 - 1


def counted(*fields):
    return last(face(0, *fields), count(0))


def spared(*fields):
    return last(face(0, *fields), spare(0))


def made_words(fields, ranges):
    """The unlike words that encode answers for all numbers of some ranges, one for each told field."""
    given = run(face(0, *fields), *[encode(0, *numbers) for numbers in itertools.product(*ranges)])
    return {answer[0] for answer in given[1:] if answer[0] >= 0}


class Count(unittest.TestCase):
    def test_no_fields(self):
        self.assertEqual(counted(), [1])

    def test_constants_alone(self):
        self.assertEqual(counted(field(1, CONSTANT, 0, 31, fixed=ALL)), [1])
        self.assertEqual(counted(field(1, CONSTANT, 4, 8), field(2, CONSTANT, 20, 3, fixed=5)), [1])
        self.assertEqual(counted(*[field(k, CONSTANT, 2 * k, 2, fixed=k % 4) for k in range(12)]), [1])

    def test_whole_of_each_width(self):
        for width in range(1, 32):
            self.assertEqual(counted(field(1, WHOLE, 0, width)), [2 ** width], width)

    def test_signed_of_each_width(self):
        for width in range(2, 32):
            self.assertEqual(counted(field(1, SIGNED, 31 - width, width)), [2 ** width], width)

    def test_digits_of_each_width(self):
        for digits in range(1, 8):
            self.assertEqual(counted(field(1, DIGITS, 3, 4 * digits)), [10 ** digits], digits)

    def test_several_fields(self):
        self.assertEqual(counted(field(1, WHOLE, 0, 3), field(2, DIGITS, 3, 28)), [8 * 10 ** 7])
        self.assertEqual(counted(field(1, DIGITS, 20, 8), field(2, CONSTANT, 5, 3, fixed=2), field(3, SIGNED, 0, 5),
                                 field(4, WHOLE, 9, 1)), [100 * 32 * 2])
        self.assertEqual(counted(field(1, DIGITS, 0, 4), field(2, DIGITS, 4, 4)), [100])

    def test_twelve_fields(self):
        self.assertEqual(counted(*[field(k, WHOLE, 2 * k, 2) for k in range(12)]), [4 ** 12])
        self.assertEqual(counted(*[field(k, (WHOLE, SIGNED, CONSTANT)[k % 3], 2 * k, 2) for k in range(12)]), [4 ** 8])

    def test_the_scale_and_the_spare_bits_do_not_matter(self):
        self.assertEqual(counted(field(1, WHOLE, 0, 4, 7, 3), field(2, DIGITS, 20, 4, 1, 1000000)), [160])

    def test_no_spare_bit(self):
        self.assertEqual(counted(field(1, WHOLE, 0, 16), field(2, SIGNED, 16, 15)), [2 ** 31])

    def test_as_many_as_are_made(self):
        fields = [field(1, WHOLE, 3, 1), field(2, CONSTANT, 0, 3, fixed=5), field(3, SIGNED, 20, 2),
                  field(4, DIGITS, 8, 4)]
        words = made_words(fields, (range(-1, 3), range(-3, 3), range(-1, 11)))
        self.assertEqual(len(words), 2 * 4 * 10)
        self.assertEqual(counted(*fields), [len(words)])


class Spare(unittest.TestCase):
    def test_no_fields(self):
        self.assertEqual(spared(), [ALL])

    def test_none_left(self):
        self.assertEqual(spared(field(1, WHOLE, 0, 31)), [0])
        self.assertEqual(spared(field(1, CONSTANT, 0, 31, fixed=6)), [0])
        self.assertEqual(spared(field(1, DIGITS, 0, 28), field(2, SIGNED, 28, 3)), [0])
        self.assertEqual(spared(field(1, WHOLE, 30, 1), field(2, SIGNED, 0, 30)), [0])

    def test_each_bit(self):
        for low in range(31):
            self.assertEqual(spared(field(1, WHOLE, low, 1)), [ALL - 2 ** low], low)
        for low in range(1, 30):
            self.assertEqual(spared(field(1, WHOLE, 0, low), field(2, WHOLE, low + 1, 30 - low)), [2 ** low], low)

    def test_each_kind(self):
        for kind in (WHOLE, SIGNED, DIGITS, CONSTANT):
            self.assertEqual(spared(field(1, kind, 8, 8)), [ALL - 0xff00], kind)

    def test_the_fixed_bits_of_a_constant_do_not_matter(self):
        for fixed in (0, 1, 10, 15):
            self.assertEqual(spared(field(1, CONSTANT, 4, 4, fixed=fixed)), [ALL - 0xf0], fixed)

    def test_constants_alone(self):
        self.assertEqual(spared(field(1, CONSTANT, 4, 8), field(2, CONSTANT, 20, 3, fixed=5)), [ALL - 0x700ff0])

    def test_fields_in_any_order(self):
        self.assertEqual(spared(field(9, WHOLE, 24, 4), field(1, DIGITS, 0, 8), field(5, SIGNED, 12, 2)),
                         [ALL - 0xf0030ff])

    def test_twelve_fields(self):
        self.assertEqual(spared(*[field(k, WHOLE, 2 * k, 2) for k in range(12)]), [ALL - (2 ** 24 - 1)])
        self.assertEqual(spared(*[field(k, WHOLE, 2 * k, 1) for k in range(12)]), [ALL - 0x555555])

    def test_as_many_ones_as_face_answers(self):
        for fields in ([], [field(1, WHOLE, 7, 9)], [field(1, DIGITS, 0, 12), field(2, CONSTANT, 14, 17, fixed=3)]):
            spares, mask = run(face(3, *fields), spare(3))
            self.assertEqual([bin(mask[0]).count("1")], spares)


class OfBoth(unittest.TestCase):
    def test_of_the_interface_that_is_asked(self):
        self.assertEqual(run(face(2, field(1, WHOLE, 0, 2)), face(3, field(1, DIGITS, 0, 4)), count(2), count(3),
                             spare(2), spare(3)), [[29], [27], [4], [10], [ALL - 3], [ALL - 15]])

    def test_in_place_of_an_older_one(self):
        self.assertEqual(run(face(2, field(1, WHOLE, 0, 2)), face(2, field(1, DIGITS, 4, 4)), count(2), spare(2)),
                         [[29], [27], [10], [ALL - 0xf0]])

    def test_after_a_refused_face(self):
        self.assertEqual(run(face(2, field(1, WHOLE, 0, 2)), face(2, field(1, DIGITS, 0, 5)), face_of(2, [1]),
                             count(2), spare(2)), [[29], [-4], [-1], [4], [ALL - 3]])

    def test_both_ends_of_the_range(self):
        for i in (0, 7):
            self.assertEqual(run(face(i, field(1, WHOLE, 0, 2)), count(i), spare(i)), [[29], [4], [ALL - 3]])

    def test_out_of_range(self):
        every = [face(i) for i in range(8)]
        for i in (-1, 8, BIG, -BIG):
            for call in (count(i), spare(i)):
                self.assertEqual(last(call), [-1])
                self.assertEqual(last(*every, call), [-1])

    def test_no_such_interface(self):
        for i in range(8):
            others = [face(k) for k in range(8) if k != i]
            for call in (count(i), spare(i)):
                self.assertEqual(last(call), [-2])
                self.assertEqual(last(*others, call), [-2])
                self.assertEqual(last(face(i), drop(i), call), [-2])


if __name__ == "__main__":
    unittest.main()
