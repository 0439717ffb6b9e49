"""The calls on numbered interfaces, and their answers."""

from wordfields.fields import bits_for
from wordfields.fields import nearest_number
from wordfields.fields import value_of
from wordfields.layouts import fields_of
from wordfields.layouts import is_as_told
from wordfields.layouts import layout_refusal
from wordfields.layouts import numbers_of
from wordfields.layouts import spare_count
from wordfields.layouts import spare_mask
from wordfields.trouble import first_trouble
from wordfields.words import has_odd_ones
from wordfields.words import make_word
from wordfields.words import read_fields
from wordfields.words import word_count

# Call 12, layout, needs no name: it's the one that is left.
FACE = 0
ENCODE = 1
DECODE = 2
COMPARE = 3
THROUGH = 4
VALUE = 5
NEAREST = 6
COUNT = 7
SPARE = 8
NAMES = 9
DROP = 10
FACES = 11

# For each call, least and most for each of its whole numbers; None where no range is told.
RANGES = {
    0: ((0, 7),),
    1: ((0, 7),),
    2: ((0, 7), (0, 4294967295)),
    3: ((0, 7), (0, 7)),
    4: ((0, 7), (0, 7)),
    5: ((0, 7), None, None),
    6: ((0, 7), None, (-1000000000000, 1000000000000), (1, 1000000000000)),
    7: ((0, 7),),
    8: ((0, 7),),
    9: ((0, 7), (0, 7)),
    10: ((0, 7),),
    11: (),
    12: ((0, 7),),
}


def has_row(call):
    """Whether a call has a list behind its whole numbers."""
    return call in (FACE, ENCODE, THROUGH)


def needed_faces(call, plain):
    """The numbers of the interfaces that must be there for a call."""
    if call in (FACE, FACES):
        return []
    if call in (COMPARE, THROUGH, NAMES):
        return plain[:2]
    return plain[:1]


def are_in_range(call, plain):
    """Whether a call's whole numbers are in their ranges."""
    for number, bounds in zip(plain, RANGES[call]):
        if bounds is not None and (number < bounds[0] or number > bounds[1]):
            return False
    return True


def counted(numbers):
    """Numbers with how many they are before them."""
    return [len(numbers)] + numbers


def field_named(face, name):
    """The field of this name; None if there's none."""
    for field in face:
        if field.name == name:
            return field
    return None


def put_face(kept, i, numbers):
    """Answer face: keep the interface that a list tells, if it's right."""
    if not is_as_told(numbers):
        return [-1]
    face = fields_of(numbers)
    refusal = layout_refusal(face)
    if refusal < 0:
        return [refusal]
    kept[i] = face
    return [spare_count(face)]


def drop_face(kept, i):
    """Answer drop: keep an interface no longer."""
    kept.pop(i)
    return [0]


def listed_faces(kept):
    """Answer faces."""
    return counted(sorted(kept))


def made_word(face, numbers):
    """Answer encode."""
    word = make_word(face, numbers)
    return [-7] if word is None else [word]


def read_numbers(face, word):
    """Answer what an interface reads of a word whose parity is right."""
    numbers = read_fields(face, word)
    return [-9] if numbers is None else counted(numbers)


def read_word(face, word):
    """Answer decode."""
    if not has_odd_ones(word):
        return [-8]
    return read_numbers(face, word)


def read_through(maker, reader, numbers):
    """Answer through."""
    word = make_word(maker, numbers)
    return [-7] if word is None else read_numbers(reader, word)


def named_value(face, name, number):
    """Answer value."""
    field = field_named(face, name)
    if field is None:
        return [-10]
    if bits_for(field, number) is None:
        return [-11]
    return [0] + value_of(field, number)


def named_nearest(face, name, p, q):
    """Answer nearest."""
    field = field_named(face, name)
    if field is None:
        return [-10]
    number = nearest_number(field, p, q)
    return [-11] if bits_for(field, number) is None else [0, number]


def missing_names(face, other):
    """The names of an interface that another hasn't, in their order."""
    return [field.name for field in face if field_named(other, field.name) is None]


def unlike_names(a, b):
    """Answer names."""
    return counted(missing_names(a, b)) + counted(missing_names(b, a))


def told_layout(face):
    """Answer layout."""
    return counted(numbers_of(face))


def answer_of_all(kept, call, plain, row):
    """The answer to a call that puts or drops an interface, or lists those that are there."""
    if call == FACE:
        return put_face(kept, plain[0], row)
    if call == DROP:
        return drop_face(kept, plain[0])
    return listed_faces(kept)


def answer_of_two(a, b, call, row):
    """The answer to a call on two interfaces."""
    if call == COMPARE:
        return first_trouble(a, b)
    if call == THROUGH:
        return read_through(a, b, row)
    return unlike_names(a, b)


def answer_of_one(face, call, plain, row):
    """The answer to a call on one interface."""
    if call == ENCODE:
        return made_word(face, row)
    if call == DECODE:
        return read_word(face, plain[1])
    if call == VALUE:
        return named_value(face, plain[1], plain[2])
    if call == NEAREST:
        return named_nearest(face, plain[1], plain[2], plain[3])
    if call == COUNT:
        return [word_count(face)]
    if call == SPARE:
        return [spare_mask(face)]
    return told_layout(face)


def answer_of(kept, call, plain, row):
    """The answer to one call; kept holds the interfaces by their numbers."""
    if not are_in_range(call, plain):
        return [-1]
    needed = needed_faces(call, plain)
    if not all([i in kept for i in needed]):
        return [-2]
    if call in (FACE, DROP, FACES):
        return answer_of_all(kept, call, plain, row)
    if len(needed) == 2:
        return answer_of_two(kept[plain[0]], kept[plain[1]], call, row)
    return answer_of_one(kept[plain[0]], call, plain, row)


def answers(calls):
    """The answers to calls laid one behind another, each with how many numbers it has before it."""
    kept = {}
    given = []
    place = 0
    while place < len(calls):
        call = calls[place]
        row_at = place + 1 + len(RANGES[call])
        plain = calls[place + 1:row_at]
        row = []
        place = row_at
        if has_row(call):
            place = row_at + 1 + calls[row_at]
            row = calls[row_at + 1:place]
        answer = answer_of(kept, call, plain, row)
        given.append(len(answer))
        given.extend(answer)
    return given
