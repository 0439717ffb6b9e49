"""All promises together: lists of up to 400 calls of all thirteen kinds, held against the document's own words."""

import random
import unittest
from fractions import Fraction

from tests.building import CONSTANT, DIGITS, SIGNED, WHOLE
from tests.building import compare, count, decode, drop, encode, face, face_of, faces, field, layout, names, nearest
from tests.building import run, spare, through, value, with_parity
from tests.test_compare import altered, by_all_words, patterns, some_face, value_in

BIG = 1000000000000000000
ENDS = ((0, 99), (0, 3), (0, 30), (1, 31), (1, 10 ** 6), (1, 10 ** 6), (0, 2 ** 31 - 1))


def places(one):
    return set(range(one[2], one[2] + one[3]))


def is_right(one):
    kind, width, fixed = one[1], one[3], one[6]
    if kind == CONSTANT:
        return fixed < 2 ** width
    return fixed == 0 and (kind != SIGNED or width >= 2) and (kind != DIGITS or width % 4 == 0)


def face_refusal(row):
    """Why a list is refused, 0 if it isn't."""
    if len(row) % 7 or len(row) > 84:
        return -1
    fields = [row[k:k + 7] for k in range(0, len(row), 7)]
    if not all(least <= number <= most for one in fields for number, (least, most) in zip(one, ENDS)):
        return -1
    if any(one[2] + one[3] > 31 for one in fields):
        return -3
    if not all(is_right(one) for one in fields):
        return -4
    if len(set().union(*[places(one) for one in fields])) < sum(one[3] for one in fields):
        return -5
    if len({one[0] for one in fields}) < len(fields):
        return -6
    return 0


def number_in(one, word):
    read = value_in(one[:4] + [1, 1] + one[6:], word)
    return None if read is None else int(read)


def bits_of(one, number):
    """The bits in the word for which a field of few bits stands for a number, None if it doesn't fit."""
    for bits in patterns(one):
        if number_in(one, bits) == number:
            return bits
    return None


class Document:
    """What each call must answer, for interfaces of few bits, by going through all that can be."""

    def __init__(self):
        self.kept = {}

    def word(self, i, numbers):
        told = [one for one in self.kept[i] if one[1] != CONSTANT]
        if len(told) != len(numbers):
            return None
        bits = [bits_of(one, number) for one, number in zip(told, numbers)]
        bits += [one[6] << one[2] for one in self.kept[i] if one[1] == CONSTANT]
        return None if None in bits else with_parity(sum(bits))

    def read(self, i, word):
        numbers = [number_in(one, word) for one in self.kept[i]]
        if None in numbers:
            return [-9]
        told = [number for one, number in zip(self.kept[i], numbers) if one[1] != CONSTANT]
        return [len(told)] + told

    def named(self, i, name):
        return next((one for one in self.kept[i] if one[0] == name), None)

    def face(self, i, size, *row):
        refusal = face_refusal(list(row))
        if refusal:
            return [refusal]
        self.kept[i] = [list(row[k:k + 7]) for k in range(0, size, 7)]
        return [bin(self.spare(i)[0]).count("1")]

    def encode(self, i, size, *numbers):
        word = self.word(i, numbers)
        return [-7] if word is None else [word]

    def decode(self, i, word):
        return [-8] if bin(word).count("1") % 2 == 0 else self.read(i, word)

    def compare(self, a, b):
        return by_all_words(self.kept[a], self.kept[b])

    def through(self, a, b, size, *numbers):
        word = self.word(a, numbers)
        return [-7] if word is None else self.read(b, word)

    def value(self, i, name, number):
        one = self.named(i, name)
        if one is None:
            return [-10]
        if bits_of(one, number) is None:
            return [-11]
        worth = number * Fraction(one[4], one[5])
        return [0, worth.numerator, worth.denominator]

    def nearest(self, i, name, p, q):
        one = self.named(i, name)
        if one is None:
            return [-10]
        # Python rounds a half to the even one, too.
        number = round(Fraction(p, q) / Fraction(one[4], one[5]))
        return [-11] if bits_of(one, number) is None else [0, number]

    def count(self, i):
        words = {0}
        for one in self.kept[i]:
            words = {word + bits for word in words for bits in patterns(one)}
        return [len(words)]

    def spare(self, i):
        taken = set().union(*[places(one) for one in self.kept[i]])
        return [sum(2 ** b for b in range(31) if b not in taken)]

    def names(self, a, b):
        of_a = [one[0] for one in self.kept[a]]
        of_b = [one[0] for one in self.kept[b]]
        lost = [name for name in of_a if name not in of_b]
        won = [name for name in of_b if name not in of_a]
        return [len(lost)] + lost + [len(won)] + won

    def drop(self, i):
        del self.kept[i]
        return [0]

    def faces(self):
        there = [i for i in range(8) if i in self.kept]
        return [len(there)] + there

    def layout(self, i):
        told = [number for one in self.kept[i] for number in one]
        return [len(told)] + told

    def answer(self, call):
        sort = ("face", "encode", "decode", "compare", "through", "value", "nearest", "count", "spare", "names", "drop",
                "faces", "layout")[call[0]]
        asked = call[1:3] if sort in ("compare", "through", "names") else call[1:2]
        if any(i not in range(8) for i in asked):
            return [-1]
        if sort == "decode" and call[2] not in range(2 ** 32):
            return [-1]
        if sort == "nearest" and not (abs(call[3]) <= 10 ** 12 and 1 <= call[4] <= 10 ** 12):
            return [-1]
        if sort not in ("face", "faces") and any(i not in self.kept for i in asked):
            return [-2]
        return getattr(self, sort)(*call[1:])


def some_i(source):
    return source.choice((0, 1, 2, 3, 4, 5, 6, 7) * 6 + (-1, 8, BIG, -BIG))


def some_list(source):
    """A list that tells few bits, or a wrong one."""
    fields = some_face(source, 10)
    if fields and source.random() < 0.3:
        fields = altered(source, fields)
    if fields and source.random() < 0.1:
        source.choice(fields)[2] = source.randint(27, 30)
    source.shuffle(fields)
    row = [number for one in fields for number in one]
    return row[:-1] if source.random() < 0.05 else row


def some_numbers(source, document, i):
    told = [one for one in document.kept.get(i, []) if one[1] != CONSTANT]
    numbers = [source.choice((source.randint(-3, 9), source.randint(0, 3), source.randint(-20, 110))) for one in told]
    if source.random() < 0.7:
        numbers = [number_in(one, source.choice(patterns(one))) for one in told]
    return numbers + [0] if source.random() < 0.1 else numbers


def some_word(source, document, i):
    word = source.choice((0, -1, 2 ** 32, source.randrange(2 ** 32), source.randrange(2 ** 10)))
    if i in document.kept and source.random() < 0.7:
        word = sum(source.choice(patterns(one)) for one in document.kept[i])
    return with_parity(word) if word >= 0 and source.random() < 0.8 else word


def some_call(source, document):
    """A call of any kind; document holds the interfaces that are there."""
    i, other = some_i(source), some_i(source)
    name = source.choice((0, 1, 2, 3, 4, -1, 100))
    return source.choice((
        lambda: face_of(i, some_list(source)),
        lambda: face_of(i, some_list(source)),
        lambda: encode(i, *some_numbers(source, document, i)),
        lambda: decode(i, some_word(source, document, i)),
        lambda: compare(i, other),
        lambda: through(i, other, *some_numbers(source, document, i)),
        lambda: value(i, name, source.choice((0, source.randint(-8, 20), BIG))),
        lambda: nearest(i, name, source.choice((source.randint(-40, 200), 10 ** 12 + 1)), source.randint(0, 4)),
        lambda: count(i),
        lambda: spare(i),
        lambda: names(i, other),
        lambda: drop(i),
        lambda: faces(),
        lambda: layout(i),
    ))()


class AllCalls(unittest.TestCase):
    def test_many_lists_of_calls(self):
        seen = set()
        for seed in range(60):
            source = random.Random(seed)
            document = Document()
            calls = []
            expected = []
            for step in range(source.choice((1, 40, 400))):
                calls.append(some_call(source, document))
                expected.append(document.answer(calls[-1]))
                seen.add((calls[-1][0], min(expected[-1][0], 0)))
            self.assertLessEqual(sum(len(call) for call in calls), 16000)
            answered = run(*calls)
            self.assertEqual(len(answered), len(calls))
            for call, given, told in zip(calls, answered, expected):
                self.assertEqual(given, told, (seed, call))
        refusals = {0: (-1, -3, -4, -5, -6), 1: (-1, -2, -7), 2: (-1, -2, -8, -9), 3: (-1, -2), 4: (-1, -2, -7, -9),
                    5: (-1, -2, -10, -11), 6: (-1, -2, -10, -11), 7: (-1, -2), 8: (-1, -2), 9: (-1, -2), 10: (-1, -2),
                    11: (), 12: (-1, -2)}
        self.assertEqual(seen, {(call, told) for call in refusals for told in refusals[call] + (0,)})

    def test_a_list_as_long_as_can_be(self):
        fields = [field(k, (WHOLE, SIGNED)[k % 2], 2 * k, 2, k + 1, 3) for k in range(12)]
        calls = [face(i % 8, *fields[:i % 13]) for i in range(300)] + [layout(7), faces(), names(0, 1), drop(7)] * 25
        self.assertEqual(len(calls), 400)
        self.assertLessEqual(sum(len(call) for call in calls), 16000)
        document = Document()
        self.assertEqual(run(*calls), [document.answer(call) for call in calls])


if __name__ == "__main__":
    unittest.main()
