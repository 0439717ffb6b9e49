"""The interface: how calls are laid out, what's given back, and that nothing is kept or changed."""

import unittest

from tests.building import CONSTANT, DIGITS, SIGNED, WHOLE
from tests.building import compare, count, decode, drop, encode, face, faces, field, layout, names, nearest, run
from tests.building import spare, through, value, with_parity
from wordfields.faces import answers

CALLS = [
    face(0, field(1, WHOLE, 0, 4, 1, 2), field(2, CONSTANT, 4, 2, 1, 1, 2)),
    encode(0, 9),
    decode(0, with_parity(0x29)),
    face(1, field(1, DIGITS, 0, 4), field(3, SIGNED, 4, 3)),
    compare(0, 1),
    through(0, 1, 9),
    through(0, 1, 10),
    value(0, 1, 6),
    nearest(0, 1, 6, 1),
    nearest(0, 1, 8, 1),
    count(1),
    spare(0),
    names(0, 1),
    layout(0),
    faces(),
    face(0),
    encode(0),
    face(0, [1]),
    encode(0),
    layout(0),
    drop(0),
    drop(0),
    faces(),
]

GIVEN = [1, 25, 1, 0x29, 2, 1, 9, 1, 24, 2, 1, 1, 3, 2, 9, 2, 1, -9, 3, 0, 3, 1, 2, 0, 12, 1, -11,
         1, 80, 1, 2 ** 31 - 64, 4, 1, 2, 1, 3, 15, 14, 1, 0, 0, 4, 1, 2, 0, 2, 3, 4, 2, 1, 1, 2, 3, 2, 0, 1,
         1, 31, 1, 2 ** 31, 1, -1, 1, 2 ** 31, 1, 0, 1, 0, 1, -2, 2, 1, 1]


class Still(list):
    """A list that can't be changed, not for a while either."""

    def refuse(self, *args, **kwargs):
        raise AssertionError("the list that was handed in was changed")

    append = clear = extend = insert = pop = remove = reverse = sort = refuse
    __setitem__ = __delitem__ = __iadd__ = __imul__ = refuse


class Interface(unittest.TestCase):
    def test_counts_and_numbers(self):
        self.assertEqual(answers([number for call in CALLS for number in call]), GIVEN)

    def test_the_example_of_the_readme(self):
        self.assertEqual(answers([0, 0, 7, 5, 2, 0, 8, 1, 10, 0, 1, 0, 1, 42, 5, 0, 5, 42, 7, 0, 11]),
                         [1, 23, 1, 2147483714, 3, 0, 21, 5, 1, 100, 2, 1, 0])

    def test_whole_numbers_in_a_list(self):
        given = answers([number for call in CALLS for number in call])
        self.assertIs(type(given), list)
        for number in given:
            self.assertIs(type(number), int)

    def test_what_is_handed_in_stays(self):
        calls = [number for call in CALLS for number in call]
        before = list(calls)
        first = answers(calls)
        self.assertEqual(calls, before)
        self.assertEqual(answers(calls), first)

    def test_what_is_handed_in_is_not_changed_for_a_while_either(self):
        self.assertEqual(answers(Still([number for call in CALLS for number in call])), GIVEN)

    def test_what_is_given_back_is_not_what_was_handed_in(self):
        calls = faces()
        given = answers(calls)
        given.append(5)
        self.assertEqual(calls, [11])

    def test_what_is_given_back_is_not_kept(self):
        calls = face(0, field(1, WHOLE, 0, 4)) + decode(0, 1)
        first = answers(calls)
        first[0] = 99
        first.append(5)
        self.assertEqual(answers(calls), [1, 27, 2, 1, 1])

    def test_a_second_time_begins_without_interfaces(self):
        self.assertEqual(answers(face(0, field(1, WHOLE, 0, 4)) + encode(0, 1)), [1, 27, 1, 1])
        self.assertEqual(answers(encode(0, 1)), [1, -2])
        self.assertEqual(answers(compare(0, 0)), [1, -2])
        self.assertEqual(answers([number for i in range(8) for number in face(i)] + faces())[16:],
                         [9, 8, 0, 1, 2, 3, 4, 5, 6, 7])
        self.assertEqual(answers(faces()), [1, 0])
        for call in (count(0), spare(0), names(0, 0), drop(0), layout(0)):
            self.assertEqual(answers(call), [1, -2])

    def test_a_second_time_is_not_changed_by_a_drop(self):
        calls = face(0) + drop(0) + face(0) + faces()
        self.assertEqual(answers(calls), [1, 31, 1, 0, 1, 31, 2, 1, 0])
        self.assertEqual(answers(calls), [1, 31, 1, 0, 1, 31, 2, 1, 0])

    def test_each_call_asks_for_its_interface(self):
        for call in (encode(4), decode(4, 1), compare(4, 4), through(4, 4), value(4, 1, 1), nearest(4, 1, 1, 1),
                     count(4), spare(4), names(4, 4), drop(4), layout(4)):
            self.assertEqual(answers(call), [1, -2])

    def test_the_first_and_the_last_interface(self):
        for i in (0, 7):
            calls = face(i, field(1, WHOLE, 0, 4)) + encode(i, 7) + decode(i, 7) + compare(i, i) + through(i, i, 7)
            self.assertEqual(answers(calls + value(i, 1, 7) + nearest(i, 1, 7, 1)),
                             [1, 27, 1, 7, 2, 1, 7, 2, 0, 0, 2, 1, 7, 3, 0, 7, 1, 2, 0, 7])
            calls = face(i, field(1, WHOLE, 0, 4)) + count(i) + spare(i) + names(i, i) + faces() + layout(i) + drop(i)
            self.assertEqual(answers(calls), [1, 27, 1, 16, 1, 2 ** 31 - 16, 2, 0, 0, 2, 1, i,
                                              8, 7, 1, WHOLE, 0, 4, 1, 1, 0, 1, 0])

    def test_a_refused_call_with_a_list_is_passed_over_whole(self):
        calls = encode(9, 2, 3, 4) + through(9, 0, 0, 0, 0) + face(9, field(1, WHOLE, 0, 4)) + encode(0, *[0] * 40)
        self.assertEqual(answers(calls + face(0) + encode(0)), [1, -1, 1, -1, 1, -1, 1, -2, 1, 31, 1, 2 ** 31])

    def test_refusals_change_nothing(self):
        kept = face(0, field(1, WHOLE, 0, 4)) + face(1, field(1, DIGITS, 0, 4))
        refused = [encode(0, 16), encode(0), decode(0, 0), decode(1, 11), through(0, 1, 12), through(0, 1),
                   value(0, 2, 1), value(0, 1, 16), nearest(0, 2, 1, 1), nearest(0, 1, 16, 1), nearest(0, 1, 1, 0),
                   compare(0, 2), encode(8, 1), count(2), count(8), spare(2), spare(-1), names(0, 2), names(2, 1),
                   names(0, 8), names(-1, 1), drop(2), drop(8), drop(-1), layout(2), layout(8)]
        numbers = [-7, -7, -8, -9, -9, -7, -10, -11, -10, -11, -1, -2, -1, -2, -1, -2, -1, -2, -2, -1, -1, -2, -1, -1,
                   -2, -1]
        asked = encode(0, 15) + decode(1, 7) + compare(0, 1) + compare(1, 0) + encode(2)
        asked += faces() + layout(0) + layout(1)
        told = [1, 15 + 2 ** 31, 2, 1, 7, 2, 1, 1, 2, 0, 0, 1, -2, 3, 2, 0, 1, 8, 7, 1, WHOLE, 0, 4, 1, 1, 0,
                8, 7, 1, DIGITS, 0, 4, 1, 1, 0]
        self.assertEqual(answers(kept + asked), [1, 27, 1, 27] + told)
        self.assertEqual(len(refused), len(numbers))
        for call, number in zip(refused, numbers):
            self.assertEqual(answers(kept + call + asked), [1, 27, 1, 27, 1, number] + told, call)

    def test_four_hundred_calls(self):
        calls = face(0, field(1, WHOLE, 0, 9))
        expected = [1, 22]
        for number in range(399):
            calls += encode(0, number)
            expected += [1, with_parity(number)]
        self.assertEqual(answers(calls), expected)

    def test_put_in_place_dropped_and_put_anew(self):
        calls = []
        expected = []
        for step in range(40):
            i = step % 8
            calls += [face(i, field(step, WHOLE, 0, 1)), layout(i), face(i, field(step + 1, SIGNED, 0, 2)), layout(i),
                      drop(i), layout(i), drop(i), faces(), face(i, field(step + 2, DIGITS, 0, 4)), layout(i)]
            there = [k for k in range(8) if k != i and k < step]
            expected += [[30], [7, step, WHOLE, 0, 1, 1, 1, 0], [29], [7, step + 1, SIGNED, 0, 2, 1, 1, 0], [0], [-2],
                         [-2], [len(there)] + there, [27], [7, step + 2, DIGITS, 0, 4, 1, 1, 0]]
        self.assertEqual(len(calls), 400)
        self.assertEqual(run(*calls), expected)


if __name__ == "__main__":
    unittest.main()
