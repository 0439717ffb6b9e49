"""Promise 4, as far as it speaks of compare."""

import itertools
import random
import unittest
from fractions import Fraction

from tests.building import CONSTANT, DIGITS, SIGNED, WHOLE
from tests.building import compare, face, field, last, run

BIG = 1000000000000000000


def compared(a, b):
    """What compare answers of two lists of fields."""
    return last(face(0, *a), face(1, *b), compare(0, 1))


def patterns(one):
    """All bits of a field that stand for something, in their places in the word."""
    kind, low, width, fixed = one[1], one[2], one[3], one[6]
    if kind == CONSTANT:
        return [fixed << low]
    if kind == DIGITS:
        return [int(str(number), 16) << low for number in range(10 ** (width // 4))]
    return [bits << low for bits in range(2 ** width)]


def value_in(one, word):
    """A field's value in a word, None if its bits stand for nothing."""
    kind, low, width, num, den, fixed = one[1:]
    bits = word >> low & 2 ** width - 1
    if kind == SIGNED and bits >= 2 ** (width - 1):
        bits -= 2 ** width
    if kind == DIGITS:
        written = "%x" % bits
        if not written.isdigit():
            return None
        bits = int(written)
    if kind == CONSTANT and bits != fixed:
        return None
    return Fraction(bits * num, den)


def by_all_words(a, b):
    """What compare must answer, by going through all words of a."""
    words = [sum(bits) for bits in itertools.product(*[patterns(one) for one in a])]
    for place, x in enumerate(b, start=1):
        read = [value_in(x, word) for word in words]
        if None in read:
            return [place, 1]
        for y in a:
            if y[0] == x[0] and read != [value_in(y, word) for word in words]:
                return [place, 2]
    return [0, 0]


class NoTrouble(unittest.TestCase):
    def test_with_itself(self):
        a = [field(1, DIGITS, 0, 12, 3, 7), field(2, SIGNED, 12, 5, 1, 9), field(3, WHOLE, 20, 3),
             field(4, CONSTANT, 24, 4, 2, 3, 11)]
        self.assertEqual(last(face(5, *a), compare(5, 5)), [0, 0])
        self.assertEqual(compared(a, list(reversed(a))), [0, 0])

    def test_without_fields(self):
        self.assertEqual(compared([], []), [0, 0])
        self.assertEqual(compared([field(1, WHOLE, 0, 31)], []), [0, 0])
        self.assertEqual(compared([], [field(1, WHOLE, 0, 3), field(2, DIGITS, 3, 4), field(3, CONSTANT, 7, 24)]), [0, 0])

    def test_names_that_the_other_has_not(self):
        self.assertEqual(compared([field(1, WHOLE, 0, 8)], [field(2, SIGNED, 3, 8, 5, 3)]), [0, 0])

    def test_the_same_scale_in_other_terms(self):
        self.assertEqual(compared([field(1, SIGNED, 0, 8, 3, 6)], [field(1, SIGNED, 0, 8, 500000, 1000000)]), [0, 0])

    def test_spare_bits_above(self):
        self.assertEqual(compared([field(1, WHOLE, 4, 3)], [field(1, WHOLE, 4, 8)]), [0, 0])
        self.assertEqual(compared([field(1, WHOLE, 4, 3)], [field(1, SIGNED, 4, 4)]), [0, 0])
        self.assertEqual(compared([field(1, WHOLE, 4, 3)], [field(1, DIGITS, 4, 8)]), [0, 0])

    def test_spare_bits_below_and_a_finer_scale(self):
        self.assertEqual(compared([field(1, WHOLE, 4, 3)], [field(1, WHOLE, 3, 4, 1, 2)]), [0, 0])
        self.assertEqual(compared([field(1, SIGNED, 4, 3, 2, 1)], [field(1, SIGNED, 3, 4)]), [0, 0])


class ByOne(unittest.TestCase):
    def test_constants_over_spare_bits(self):
        self.assertEqual(compared([], [field(1, CONSTANT, 3, 4, fixed=0)]), [0, 0])
        self.assertEqual(compared([], [field(1, CONSTANT, 3, 4, fixed=8)]), [1, 1])

    def test_constants_over_constants(self):
        a = [field(1, CONSTANT, 0, 4, fixed=9), field(2, CONSTANT, 4, 4, fixed=3)]
        self.assertEqual(compared(a, [field(9, CONSTANT, 0, 8, fixed=0x39)]), [0, 0])
        self.assertEqual(compared(a, [field(9, CONSTANT, 2, 6, fixed=0x39 >> 2)]), [0, 0])
        self.assertEqual(compared(a, [field(9, CONSTANT, 2, 10, fixed=0x39 >> 2)]), [0, 0])
        self.assertEqual(compared(a, [field(9, CONSTANT, 0, 8, fixed=0x38)]), [1, 1])
        self.assertEqual(compared(a, [field(9, CONSTANT, 2, 10, fixed=(0x39 >> 2) + 512)]), [1, 1])

    def test_constants_over_bits_that_can_be_0_or_1(self):
        for kind in (WHOLE, SIGNED, DIGITS):
            for fixed in (0, 1):
                for low in range(4, 8):
                    self.assertEqual(compared([field(1, kind, 4, 4)], [field(9, CONSTANT, low, 1, fixed=fixed)]), [1, 1])
            self.assertEqual(compared([field(1, kind, 4, 4)], [field(9, CONSTANT, 8, 1)]), [0, 0])
            self.assertEqual(compared([field(1, kind, 4, 4)], [field(9, CONSTANT, 3, 1)]), [0, 0])

    def test_digits_over_whole_and_signed(self):
        for kind in (WHOLE, SIGNED):
            self.assertEqual(compared([field(1, kind, 0, 4)], [field(9, DIGITS, 0, 4)]), [1, 1])
            self.assertEqual(compared([field(1, kind, 0, 3)], [field(9, DIGITS, 0, 4)]), [0, 0])
            self.assertEqual(compared([field(1, kind, 1, 3)], [field(9, DIGITS, 0, 4)]), [1, 1])
            self.assertEqual(compared([field(1, kind, 2, 2)], [field(9, DIGITS, 0, 4)]), [1, 1])
        self.assertEqual(compared([field(1, WHOLE, 3, 1)], [field(9, DIGITS, 0, 4)]), [0, 0])
        self.assertEqual(compared([field(1, WHOLE, 0, 1), field(2, WHOLE, 3, 1)], [field(9, DIGITS, 0, 4)]), [0, 0])
        self.assertEqual(compared([field(1, WHOLE, 1, 1), field(2, WHOLE, 3, 1)], [field(9, DIGITS, 0, 4)]), [1, 1])
        self.assertEqual(compared([field(1, WHOLE, 2, 1), field(2, WHOLE, 3, 1)], [field(9, DIGITS, 0, 4)]), [1, 1])

    def test_digits_over_constants(self):
        for fixed in range(16):
            expected = [0, 0] if fixed <= 9 else [1, 1]
            self.assertEqual(compared([field(1, CONSTANT, 5, 4, fixed=fixed)], [field(9, DIGITS, 5, 4)]), expected)
        self.assertEqual(compared([field(1, CONSTANT, 7, 2, fixed=2), field(2, WHOLE, 5, 1)], [field(9, DIGITS, 5, 4)]),
                         [0, 0])
        self.assertEqual(compared([field(1, CONSTANT, 7, 2, fixed=2), field(2, WHOLE, 5, 2)], [field(9, DIGITS, 5, 4)]),
                         [1, 1])

    def test_digits_over_digits(self):
        a = [field(1, DIGITS, 8, 8)]
        for low in range(4, 17):
            expected = by_all_words(a, [field(9, DIGITS, low, 4)])
            self.assertEqual(compared(a, [field(9, DIGITS, low, 4)]), expected, low)
        self.assertEqual(compared(a, [field(9, DIGITS, 8, 4)]), [0, 0])
        self.assertEqual(compared(a, [field(9, DIGITS, 12, 4)]), [0, 0])
        self.assertEqual(compared(a, [field(9, DIGITS, 9, 4)]), [1, 1])
        self.assertEqual(compared(a, [field(9, DIGITS, 16, 8)]), [0, 0])

    def test_digits_over_two_digits_that_begin_elsewhere(self):
        self.assertEqual(compared([field(1, DIGITS, 0, 4), field(2, DIGITS, 4, 4)], [field(9, DIGITS, 0, 8)]), [0, 0])
        self.assertEqual(compared([field(1, DIGITS, 0, 4), field(2, DIGITS, 5, 4)], [field(9, DIGITS, 0, 8)]), [1, 1])
        self.assertEqual(compared([field(1, DIGITS, 0, 4), field(2, DIGITS, 5, 4)], [field(9, DIGITS, 0, 4)]), [0, 0])
        self.assertEqual(compared([field(1, DIGITS, 1, 4), field(2, DIGITS, 5, 4)], [field(9, DIGITS, 0, 4)]), [1, 1])
        self.assertEqual(compared([field(1, DIGITS, 3, 4)], [field(9, DIGITS, 0, 4)]), [0, 0])

    def test_the_upper_four_alone(self):
        self.assertEqual(compared([field(1, WHOLE, 4, 4)], [field(9, DIGITS, 0, 8)]), [1, 1])
        self.assertEqual(compared([field(1, WHOLE, 4, 4)], [field(9, DIGITS, 0, 4)]), [0, 0])

    def test_1_before_2_of_the_same_field(self):
        self.assertEqual(compared([field(1, WHOLE, 0, 4)], [field(1, DIGITS, 0, 4, 2)]), [1, 1])
        self.assertEqual(compared([field(1, WHOLE, 0, 4)], [field(1, CONSTANT, 0, 4, fixed=3)]), [1, 1])


class ByTwo(unittest.TestCase):
    def test_another_scale(self):
        self.assertEqual(compared([field(1, WHOLE, 0, 4)], [field(1, WHOLE, 0, 4, 2, 1)]), [1, 2])
        self.assertEqual(compared([field(1, WHOLE, 0, 4)], [field(1, WHOLE, 0, 4, 999999, 1000000)]), [1, 2])

    def test_another_place_or_width(self):
        self.assertEqual(compared([field(1, WHOLE, 0, 4)], [field(1, WHOLE, 1, 4)]), [1, 2])
        self.assertEqual(compared([field(1, WHOLE, 0, 4)], [field(1, WHOLE, 0, 3)]), [1, 2])
        self.assertEqual(compared([field(1, WHOLE, 0, 4), field(2, WHOLE, 4, 1)], [field(1, WHOLE, 0, 5)]), [1, 2])

    def test_another_kind(self):
        self.assertEqual(compared([field(1, WHOLE, 0, 4)], [field(1, SIGNED, 0, 4)]), [1, 2])
        self.assertEqual(compared([field(1, SIGNED, 0, 4)], [field(1, WHOLE, 0, 4)]), [1, 2])
        self.assertEqual(compared([field(1, SIGNED, 0, 4)], [field(1, SIGNED, 0, 5)]), [1, 2])

    def test_digits_against_whole_numbers(self):
        self.assertEqual(compared([field(1, DIGITS, 0, 4)], [field(1, WHOLE, 0, 4)]), [0, 0])
        self.assertEqual(compared([field(1, DIGITS, 0, 8)], [field(1, WHOLE, 0, 8)]), [1, 2])
        self.assertEqual(compared([field(1, DIGITS, 0, 4)], [field(1, SIGNED, 0, 4)]), [1, 2])
        self.assertEqual(compared([field(1, DIGITS, 0, 4)], [field(1, SIGNED, 0, 5)]), [0, 0])
        self.assertEqual(compared([field(1, WHOLE, 4, 3, 10, 1)], [field(1, DIGITS, 0, 8)]), [0, 0])
        self.assertEqual(compared([field(1, WHOLE, 4, 3, 16, 1)], [field(1, DIGITS, 0, 8)]), [1, 2])

    def test_only_the_highest_bit_differs(self):
        self.assertEqual(compared([field(1, WHOLE, 0, 31)], [field(1, SIGNED, 0, 31)]), [1, 2])
        self.assertEqual(compared([field(1, DIGITS, 0, 28)], [field(1, DIGITS, 0, 24)]), [1, 2])

    def test_constants_have_values(self):
        a = [field(1, CONSTANT, 0, 4, 3, 2, 8), field(2, WHOLE, 4, 4)]
        self.assertEqual(compared(a, [field(1, CONSTANT, 0, 4, 3, 2, 8)]), [0, 0])
        self.assertEqual(compared(a, [field(1, CONSTANT, 0, 4, 3, 1, 8)]), [1, 2])
        self.assertEqual(compared(a, [field(1, CONSTANT, 3, 1, 12, 1, 1)]), [0, 0])
        self.assertEqual(compared(a, [field(1, WHOLE, 0, 4, 3, 2)]), [0, 0])
        self.assertEqual(compared(a, [field(1, SIGNED, 0, 4, 3, 2)]), [1, 2])
        self.assertEqual(compared(a, [field(1, WHOLE, 0, 5, 3, 2)]), [1, 2])
        self.assertEqual(compared(a, [field(2, CONSTANT, 8, 4)]), [1, 2])
        self.assertEqual(compared(a, [field(1, CONSTANT, 8, 4)]), [1, 2])
        self.assertEqual(compared([field(1, CONSTANT, 0, 4)], [field(1, CONSTANT, 8, 4, 7, 3)]), [0, 0])

    def test_read_across_several_fields(self):
        a = [field(1, WHOLE, 0, 4), field(2, SIGNED, 4, 4), field(3, DIGITS, 8, 4)]
        self.assertEqual(compared(a, [field(1, WHOLE, 0, 12)]), [1, 2])
        self.assertEqual(compared(a, [field(9, WHOLE, 0, 12)]), [0, 0])
        self.assertEqual(compared(a, [field(9, DIGITS, 6, 4)]), [1, 1])
        self.assertEqual(compared([field(1, DIGITS, 0, 4), field(2, DIGITS, 4, 4)], [field(2, DIGITS, 0, 8, 1, 10)]),
                         [1, 2])


class FirstInTrouble(unittest.TestCase):
    def test_the_place(self):
        a = [field(1, WHOLE, 0, 4), field(2, WHOLE, 4, 4), field(3, WHOLE, 8, 4)]
        fine = [field(3, WHOLE, 8, 4), field(7, WHOLE, 12, 4)]
        two = field(1, WHOLE, 0, 4, 2, 1)
        one = field(2, DIGITS, 4, 4)
        self.assertEqual(compared(a, fine), [0, 0])
        self.assertEqual(compared(a, fine + [two, one]), [3, 2])
        self.assertEqual(compared(a, fine + [one, two]), [3, 1])
        self.assertEqual(compared(a, [one] + fine + [two]), [1, 1])

    def test_the_twelfth(self):
        a = [field(k, WHOLE, 2 * k, 2) for k in range(12)]
        b = a[:11] + [field(11, SIGNED, 22, 2)]
        self.assertEqual(compared(a, b), [12, 2])
        self.assertEqual(compared(b, a), [12, 2])
        self.assertEqual(compared(a, a), [0, 0])

    def test_the_first_is_who_makes(self):
        narrow = [field(1, WHOLE, 0, 3)]
        wide = [field(1, WHOLE, 0, 4)]
        self.assertEqual(compared(narrow, wide), [0, 0])
        self.assertEqual(compared(wide, narrow), [1, 2])

    def test_refusals_in_their_order(self):
        for i in (-1, 8, BIG, -BIG):
            self.assertEqual(last(compare(i, 0)), [-1])
            self.assertEqual(last(compare(0, i)), [-1])
        self.assertEqual(last(compare(0, 0)), [-2])
        self.assertEqual(run(face(0), compare(0, 7), compare(7, 0), compare(0, 0)), [[31], [-2], [-2], [0, 0]])
        self.assertEqual(run(face(7), compare(7, 7)), [[31], [0, 0]])


def some_face(source, room):
    """A list of fields within the lowest bits, of few words; names and scales are drawn from few."""
    fields = []
    low = source.choice((0, 0, 1, 2))
    names = source.sample(range(4), 4)
    while low < room and names:
        kind = source.choice((WHOLE, SIGNED, DIGITS, DIGITS, CONSTANT))
        width = {WHOLE: source.randint(1, 4), SIGNED: source.randint(2, 4), DIGITS: source.choice((4, 4, 8)),
                 CONSTANT: source.randint(1, 4)}[kind]
        if low + width > room:
            break
        fixed = source.randrange(1 << width) if kind == CONSTANT else 0
        scale = source.choice(((1, 1), (1, 1), (2, 2), (10, 1), (1, 2)))
        fields.append(field(names.pop(), kind, low, width, scale[0], scale[1], fixed))
        low += width + source.choice((0, 0, 0, 1))
    return fields


def altered(source, fields):
    """The fields with one number of one of them, or its kind, changed."""
    changed = [list(one) for one in fields]
    one = source.choice(changed)
    place = source.choice((0, 1, 2, 3, 4, 5, 6))
    one[place] = max(0 if place in (0, 1, 2, 6) else 1, one[place] + source.choice((-1, 1)))
    return changed


class AgainstAllWords(unittest.TestCase):
    def test_many_pairs(self):
        source = random.Random(7)
        seen = {}
        for step in range(3000):
            a = some_face(source, 10)
            b = altered(source, a) if a and step % 2 else some_face(source, 12)
            answer = run(face(0, *a), face(1, *b), compare(0, 1))
            if answer[1][0] < 0:
                continue
            self.assertEqual(answer[2], by_all_words(a, b), (a, b))
            seen[answer[2][1]] = seen.get(answer[2][1], 0) + 1
        for trouble in (0, 1, 2):
            self.assertGreater(seen[trouble], 100)


if __name__ == "__main__":
    unittest.main()
