"""Promise 8, drop; and faces, which lists what is there."""

import itertools
import unittest

from tests.building import DIGITS, SIGNED, WHOLE
from tests.building import compare, count, decode, drop, encode, face, face_of, faces, field, last, layout, names
from tests.building import nearest, run, spare, through, value

BIG = 1000000000000000000
ONE = field(1, WHOLE, 0, 4)


def calls_on(i, other):
    """A call of each sort that needs interface i, beside another one."""
    return [encode(i, 1), encode(i), decode(i, 1), decode(i, 0), compare(i, i), compare(i, other), compare(other, i),
            through(i, i, 1), through(i, other, 1), through(other, i, 1), value(i, 1, 1), value(i, 2, 1),
            nearest(i, 1, 1, 1), nearest(i, 2, 1, 1), count(i), spare(i), names(i, i), names(i, other),
            names(other, i), layout(i), drop(i)]


class Drop(unittest.TestCase):
    def test_answers_0(self):
        for i in range(8):
            self.assertEqual(run(face(i, ONE), drop(i)), [[27], [0]])

    def test_without_fields(self):
        self.assertEqual(run(face(2), drop(2), faces(), drop(2)), [[31], [0], [0], [-2]])

    def test_every_call_that_needs_it(self):
        for call in calls_on(3, 5):
            given = run(face(3, ONE), face(5, ONE), drop(3), call, faces())
            self.assertEqual(given[2:], [[0], [-2], [1, 5]], call)

    def test_every_call_that_needs_it_before_it_was_put(self):
        for call in calls_on(3, 5):
            self.assertEqual(last(face(5, ONE), call), [-2], call)

    def test_a_second_time(self):
        self.assertEqual(run(face(0, ONE), drop(0), drop(0), drop(0)), [[27], [0], [-2], [-2]])

    def test_the_others_stay(self):
        kept = [face(i, field(i, WHOLE, i, 2)) for i in range(8)]
        for i in range(8):
            given = run(*kept, drop(i), *[layout(k) for k in range(8)])
            told = [[7, k, WHOLE, k, 2, 1, 1, 0] for k in range(8)]
            told[i] = [-2]
            self.assertEqual(given[9:], told)

    def test_put_anew(self):
        given = run(face(1, ONE), drop(1), face(1, field(2, DIGITS, 8, 8)), faces(), layout(1), count(1),
                    value(1, 1, 1), value(1, 2, 99), drop(1), faces(), count(1))
        self.assertEqual(given, [[27], [0], [23], [1, 1], [7, 2, DIGITS, 8, 8, 1, 1, 0], [100], [-10], [0, 99, 1], [0],
                                 [0], [-2]])

    def test_an_older_one_does_not_come_back(self):
        self.assertEqual(run(face(1, ONE), face(1), drop(1), layout(1), faces()), [[27], [31], [0], [-2], [0]])

    def test_a_refused_face_after_drop_makes_none(self):
        self.assertEqual(run(face(1, ONE), drop(1), face(1, field(1, SIGNED, 0, 1)), layout(1), faces(), drop(1)),
                         [[27], [0], [-4], [-2], [0], [-2]])

    def test_like_interfaces_are_not_one(self):
        self.assertEqual(run(face(0, ONE), face(1, ONE), drop(0), encode(1, 7), encode(0, 7)),
                         [[27], [27], [0], [7], [-2]])

    def test_out_of_range(self):
        for i in (-1, 8, BIG, -BIG):
            self.assertEqual(last(drop(i)), [-1])
            self.assertEqual(run(*[face(k) for k in range(8)], drop(i), faces())[8:], [[-1], [8] + list(range(8))])

    def test_no_such_interface(self):
        for i in range(8):
            others = [k for k in range(8) if k != i]
            self.assertEqual(last(drop(i)), [-2])
            self.assertEqual(run(*[face(k) for k in others], drop(i), faces())[7:], [[-2], [7] + others])


class Faces(unittest.TestCase):
    def test_none(self):
        self.assertEqual(run(faces()), [[0]])
        self.assertEqual(run(faces(), faces(), faces()), [[0], [0], [0]])

    def test_one(self):
        for i in range(8):
            self.assertEqual(last(face(i, ONE), faces()), [1, i])

    def test_put_in_another_order(self):
        self.assertEqual(last(face(6), face(1), face(4), faces()), [3, 1, 4, 6])
        for order in itertools.permutations((0, 3, 7)):
            self.assertEqual(last(*[face(i) for i in order], faces()), [3, 0, 3, 7], order)

    def test_all_eight(self):
        for order in ((0, 1, 2, 3, 4, 5, 6, 7), (7, 6, 5, 4, 3, 2, 1, 0), (3, 7, 0, 5, 1, 6, 2, 4)):
            self.assertEqual(last(*[face(i, ONE) for i in order], faces()), [8, 0, 1, 2, 3, 4, 5, 6, 7])

    def test_put_twice_is_one(self):
        self.assertEqual(last(face(5), face(2), face(5, ONE), faces()), [2, 2, 5])

    def test_refused_ones_are_not_there(self):
        self.assertEqual(last(face(5), face(8), face(-1), face_of(2, [1]), face(3, field(1, SIGNED, 0, 1)), faces()),
                         [1, 5])

    def test_dropped_ones_are_not_there(self):
        self.assertEqual(run(face(5), face(2), face(7), drop(5), faces(), drop(2), faces(), drop(7), faces(), face(2),
                             faces())[3:], [[0], [2, 2, 7], [0], [1, 7], [0], [0], [31], [1, 2]])

    def test_put_anew_has_its_place_again(self):
        self.assertEqual(last(face(2), face(5), face(7), drop(2), face(2), faces()), [3, 2, 5, 7])

    def test_changes_nothing(self):
        self.assertEqual(run(face(2, ONE), faces(), layout(2), faces(), encode(2, 1)),
                         [[27], [1, 2], [7] + ONE, [1, 2], [1]])


if __name__ == "__main__":
    unittest.main()
