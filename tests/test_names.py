"""Promise 4, as far as it speaks of names and layout."""

import unittest

from tests.building import CONSTANT, DIGITS, SIGNED, WHOLE
from tests.building import drop, face, face_of, field, last, layout, names, run

BIG = 1000000000000000000

MIXED = [field(40, DIGITS, 16, 8, 6, 4), field(0, CONSTANT, 0, 5, 1000000, 1000000, 31), field(99, SIGNED, 8, 2, 10, 5),
         field(7, WHOLE, 30, 1, 1, 999999)]


def bits_named(*named):
    """Fields of one bit each, of these names in this order."""
    return [field(name, WHOLE, low, 1) for low, name in enumerate(named)]


def names_of(a, b):
    return last(face(3, *a), face(5, *b), names(3, 5))


def flat(fields):
    return [number for one in fields for number in one]


class Names(unittest.TestCase):
    def test_the_same_number(self):
        for fields in ([], bits_named(4), MIXED):
            self.assertEqual(last(face(6, *fields), names(6, 6)), [0, 0])

    def test_no_fields(self):
        self.assertEqual(names_of([], []), [0, 0])
        self.assertEqual(names_of([], bits_named(8, 3, 5)), [0, 3, 8, 3, 5])
        self.assertEqual(names_of(bits_named(8, 3, 5), []), [3, 8, 3, 5, 0])

    def test_none_shared(self):
        self.assertEqual(names_of(bits_named(9, 1, 5), bits_named(6, 2)), [3, 9, 1, 5, 2, 6, 2])

    def test_all_shared_in_unlike_orders(self):
        self.assertEqual(names_of(bits_named(9, 1, 5), bits_named(5, 9, 1)), [0, 0])

    def test_some_shared(self):
        self.assertEqual(names_of(bits_named(9, 1, 5, 3), bits_named(7, 3, 2, 9, 0)), [2, 1, 5, 3, 7, 2, 0])
        self.assertEqual(names_of(bits_named(1, 2), bits_named(2)), [1, 1, 0])
        self.assertEqual(names_of(bits_named(2), bits_named(3, 2, 1)), [0, 2, 3, 1])

    def test_the_order_is_that_of_the_fields_not_of_their_bits(self):
        a = [field(5, WHOLE, 20, 2), field(8, WHOLE, 0, 2), field(1, WHOLE, 10, 2)]
        b = [field(2, WHOLE, 10, 2), field(9, WHOLE, 20, 2), field(4, WHOLE, 0, 2)]
        self.assertEqual(names_of(a, b), [3, 5, 8, 1, 3, 2, 9, 4])
        self.assertEqual(names_of(b, a), [3, 2, 9, 4, 3, 5, 8, 1])

    def test_only_the_name_matters(self):
        a = [field(1, WHOLE, 0, 4), field(2, CONSTANT, 4, 4, fixed=3)]
        b = [field(2, SIGNED, 20, 3, 7, 2), field(1, DIGITS, 8, 8, 1, 10)]
        self.assertEqual(names_of(a, b), [0, 0])

    def test_constants_have_theirs(self):
        a = [field(1, CONSTANT, 0, 4, fixed=3), field(2, WHOLE, 4, 1)]
        b = [field(3, WHOLE, 0, 4), field(4, CONSTANT, 4, 2)]
        self.assertEqual(names_of(a, b), [2, 1, 2, 2, 3, 4])
        self.assertEqual(names_of(a[:1], b[1:]), [1, 1, 1, 4])

    def test_twelve_fields(self):
        falling, rising = list(range(11, -1, -1)), list(range(88, 100))
        a = bits_named(*falling)
        self.assertEqual(names_of(a, bits_named(*rising)), [12] + falling + [12] + rising)
        self.assertEqual(names_of(a, bits_named(*range(6, 18))), [6, 5, 4, 3, 2, 1, 0, 6, 12, 13, 14, 15, 16, 17])
        self.assertEqual(names_of(a, bits_named(*range(12))), [0, 0])

    def test_the_least_and_the_greatest_name(self):
        self.assertEqual(names_of(bits_named(0), bits_named(99)), [1, 0, 1, 99])
        self.assertEqual(names_of(bits_named(0, 99), bits_named(99, 0)), [0, 0])

    def test_both_ends_of_the_range(self):
        self.assertEqual(run(face(0, *bits_named(1)), face(7, *bits_named(2)), names(0, 7), names(7, 0), names(0, 0),
                             names(7, 7))[2:], [[1, 1, 1, 2], [1, 2, 1, 1], [0, 0], [0, 0]])

    def test_out_of_range(self):
        every = [face(i) for i in range(8)]
        for i in (-1, 8, BIG, -BIG):
            for call in (names(i, 0), names(0, i), names(i, i)):
                self.assertEqual(last(call), [-1])
                self.assertEqual(last(*every, call), [-1])

    def test_out_of_range_ahead_of_no_such_interface(self):
        self.assertEqual(run(face(1), names(8, 2), names(2, 8), names(2, -1), names(-1, 2), names(1, 8), names(8, 1)),
                         [[31], [-1], [-1], [-1], [-1], [-1], [-1]])

    def test_no_such_interface(self):
        self.assertEqual(run(names(0, 0), face(0), names(0, 7), names(7, 0), names(7, 7), names(0, 0)),
                         [[-2], [31], [-2], [-2], [-2], [0, 0]])

    def test_after_drop(self):
        self.assertEqual(run(face(0), face(1), drop(1), names(0, 1), names(1, 0), names(1, 1), names(0, 0))[3:],
                         [[-2], [-2], [-2], [0, 0]])


class Layout(unittest.TestCase):
    def test_no_fields(self):
        self.assertEqual(last(face(0), layout(0)), [0])

    def test_one_field(self):
        self.assertEqual(last(face(0, [12, SIGNED, 3, 4, 5, 6, 0]), layout(0)), [7, 12, SIGNED, 3, 4, 5, 6, 0])

    def test_as_told(self):
        self.assertEqual(last(face(0, *MIXED), layout(0)), [28] + flat(MIXED))

    def test_constants_alone(self):
        fields = [field(3, CONSTANT, 4, 8, 2, 4, 255), field(2, CONSTANT, 0, 2, 9, 3, 0)]
        self.assertEqual(last(face(0, *fields), layout(0)), [14] + flat(fields))

    def test_twelve_fields(self):
        fields = [field(99 - k, k % 2, 22 - 2 * k, 2, k + 1, 12 - k) for k in range(12)]
        self.assertEqual(last(face(0, *fields), layout(0)), [84] + flat(fields))

    def test_the_ends_of_each_range(self):
        for one in ([0, WHOLE, 30, 1, 1, 1000000, 0], [99, CONSTANT, 0, 31, 1000000, 1, 2147483647]):
            self.assertEqual(last(face(0, one), layout(0)), [7] + one)

    def test_in_place_of_an_older_one(self):
        self.assertEqual(run(face(4, *MIXED), face(4, field(1, WHOLE, 0, 2)), layout(4), face(4), layout(4),
                             face(4, *MIXED), layout(4))[2:],
                         [[7, 1, WHOLE, 0, 2, 1, 1, 0], [31], [0], [15], [28] + flat(MIXED)])

    def test_after_a_face_that_was_refused(self):
        wrong = [face(4, field(1, WHOLE, 0, 32)), face_of(4, [1, 0, 0, 1, 1, 1]), face(4, field(1, WHOLE, 30, 2)),
                 face(4, field(1, SIGNED, 0, 1)), face(4, field(1, WHOLE, 0, 2), field(2, WHOLE, 1, 1)),
                 face(4, field(1, WHOLE, 0, 2), field(1, WHOLE, 2, 1)), face(8, field(1, WHOLE, 0, 2))]
        for call, refusal in zip(wrong, (-1, -1, -3, -4, -5, -6, -1)):
            self.assertEqual(run(face(4, *MIXED), call, layout(4))[1:], [[refusal], [28] + flat(MIXED)], call)
            self.assertEqual(run(call, layout(4)), [[refusal], [-2]], call)

    def test_of_the_interface_that_is_asked(self):
        given = run(*[face(i, field(i, WHOLE, i, 1)) for i in range(8)], *[layout(i) for i in range(8)])
        self.assertEqual(given[8:], [[7, i, WHOLE, i, 1, 1, 1, 0] for i in range(8)])

    def test_told_again(self):
        first = run(face(0, *MIXED), layout(0))[1]
        self.assertEqual(run(face(0, *MIXED), face_of(1, first[1:]), layout(1), names(0, 1))[1:],
                         [[15], first, [0, 0]])

    def test_out_of_range(self):
        every = [face(i) for i in range(8)]
        for i in (-1, 8, BIG, -BIG):
            self.assertEqual(last(layout(i)), [-1])
            self.assertEqual(last(*every, layout(i)), [-1])

    def test_no_such_interface(self):
        for i in range(8):
            others = [face(k) for k in range(8) if k != i]
            self.assertEqual(last(layout(i)), [-2])
            self.assertEqual(last(*others, layout(i)), [-2])
            self.assertEqual(last(face(i), drop(i), layout(i)), [-2])


if __name__ == "__main__":
    unittest.main()
