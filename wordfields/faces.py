"""The calls on numbered interfaces, and their answers."""

from wordfields.fields import bits_for
from wordfields.fields import nearest_number
from wordfields.fields import value_of
from wordfields.layouts import fields_of
from wordfields.layouts import is_as_told
from wordfields.layouts import layout_refusal
from wordfields.layouts import spare_count
from wordfields.trouble import first_trouble
from wordfields.words import has_odd_ones
from wordfields.words import make_word
from wordfields.words import read_fields

FACE = 0
ENCODE = 1
DECODE = 2
COMPARE = 3
THROUGH = 4
VALUE = 5
NEAREST = 6

# For each call, least and most for each of its whole numbers; None where no range is told.
RANGES = {
    0: ((0, 7),),
    1: ((0, 7),),
    2: ((0, 7), (0, 4294967295)),
    3: ((0, 7), (0, 7)),
    4: ((0, 7), (0, 7)),
    5: ((0, 7), None, None),
    6: ((0, 7), None, (-1000000000000, 1000000000000), (1, 1000000000000)),
}


def has_row(call):
    """Whether a call has a list behind its whole numbers."""
    return call in (FACE, ENCODE, THROUGH)


def face_count(call):
    """How many of a call's first whole numbers are those of interfaces that must be there; face has none such."""
    return 2 if call in (COMPARE, THROUGH) else 1


def are_in_range(call, plain):
    """Whether a call's whole numbers are in their ranges."""
    for number, bounds in zip(plain, RANGES[call]):
        if bounds is not None and (number < bounds[0] or number > bounds[1]):
            return False
    return True


def field_named(face, name):
    """The field of this name; None if there's none."""
    for field in face:
        if field.name == name:
            return field
    return None


def put_face(kept, i, numbers):
    """Answer face: keep the interface that a list tells, if it's right."""
    if not is_as_told(numbers):
        return [-1]
    face = fields_of(numbers)
    refusal = layout_refusal(face)
    if refusal < 0:
        return [refusal]
    kept[i] = face
    return [spare_count(face)]


def made_word(face, numbers):
    """Answer encode."""
    word = make_word(face, numbers)
    return [-7] if word is None else [word]


def counted_numbers(face, word):
    """Answer what an interface reads of a word whose parity is right."""
    numbers = read_fields(face, word)
    return [-9] if numbers is None else [len(numbers)] + numbers


def read_word(face, word):
    """Answer decode."""
    if not has_odd_ones(word):
        return [-8]
    return counted_numbers(face, word)


def read_through(maker, reader, numbers):
    """Answer through."""
    word = make_word(maker, numbers)
    return [-7] if word is None else counted_numbers(reader, word)


def named_value(face, name, number):
    """Answer value."""
    field = field_named(face, name)
    if field is None:
        return [-10]
    if bits_for(field, number) is None:
        return [-11]
    return [0] + value_of(field, number)


def named_nearest(face, name, p, q):
    """Answer nearest."""
    field = field_named(face, name)
    if field is None:
        return [-10]
    number = nearest_number(field, p, q)
    return [-11] if bits_for(field, number) is None else [0, number]


def answer_of(kept, call, plain, row):
    """The answer to one call; kept holds the interfaces by their numbers."""
    if not are_in_range(call, plain):
        return [-1]
    if call == FACE:
        return put_face(kept, plain[0], row)
    if not all([i in kept for i in plain[:face_count(call)]]):
        return [-2]
    face = kept[plain[0]]
    answer = []
    if call == ENCODE:
        answer = made_word(face, row)
    elif call == DECODE:
        answer = read_word(face, plain[1])
    elif call == COMPARE:
        answer = first_trouble(face, kept[plain[1]])
    elif call == THROUGH:
        answer = read_through(face, kept[plain[1]], row)
    elif call == VALUE:
        answer = named_value(face, plain[1], plain[2])
    elif call == NEAREST:
        answer = named_nearest(face, plain[1], plain[2], plain[3])
    return answer


def answers(calls):
    """The answers to calls laid one behind another, each with how many numbers it has before it."""
    kept = {}
    given = []
    place = 0
    while place < len(calls):
        call = calls[place]
        row_at = place + 1 + len(RANGES[call])
        plain = calls[place + 1:row_at]
        row = []
        place = row_at
        if has_row(call):
            place = row_at + 1 + calls[row_at]
            row = calls[row_at + 1:place]
        answer = answer_of(kept, call, plain, row)
        given.append(len(answer))
        given.extend(answer)
    return given
