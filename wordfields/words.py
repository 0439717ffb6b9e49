"""Words of an interface: made of numbers, and read again."""

from wordfields.fields import CONSTANT
from wordfields.fields import bits_for
from wordfields.fields import field_bits
from wordfields.fields import number_of
from wordfields.fields import pattern_count
from wordfields.fields import told_fields

PARITY = 2147483648


def has_odd_ones(word):
    """Whether the number of ones in a word is odd."""
    ones = 0
    rest = word
    while rest > 0:
        ones = ones + rest % 2
        rest = rest // 2
    return ones % 2 == 1


def constant_bits(face):
    """The word that holds the constants of an interface alone, without the parity bit."""
    word = 0
    for field in face:
        if field.kind == CONSTANT:
            word = word | (field.fixed << field.low)
    return word


def make_word(face, numbers):
    """The word that an interface makes of numbers; None if they're too many or too few, or one doesn't fit."""
    told = told_fields(face)
    if len(numbers) != len(told):
        return None
    word = constant_bits(face)
    for field, number in zip(told, numbers):
        bits = bits_for(field, number)
        if bits is None:
            return None
        word = word | (bits << field.low)
    return word if has_odd_ones(word) else word | PARITY


def read_fields(face, word):
    """The numbers of the told fields in a word; None if some field's bits stand for nothing."""
    numbers = []
    for field in face:
        number = number_of(field, field_bits(field, word))
        if number is None:
            return None
        if field.kind != CONSTANT:
            numbers.append(number)
    return numbers


def word_count(face):
    """How many unlike words an interface can make."""
    words = 1
    for field in face:
        words = words * pattern_count(field)
    return words
