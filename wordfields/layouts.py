"""The list of numbers that tells an interface: its fields, or why it's refused."""

from wordfields.fields import CONSTANT
from wordfields.fields import DIGITS
from wordfields.fields import Field
from wordfields.fields import SIGNED
from wordfields.fields import field_mask
from wordfields.fields import field_numbers

FIELD_SIZE = 7
MOST_FIELDS = 12

# Bits 0 to 30: those that can be a field's.
ALL_FIELD_BITS = 2147483647

# Least and most for name, kind, low, width, num, den and fixed.
FIELD_RANGES = ((0, 99), (0, 3), (0, 30), (1, 31), (1, 1000000), (1, 1000000), (0, 2147483647))


def is_as_told(numbers):
    """Whether a list has seven numbers for each of at most 12 fields, each in its range."""
    if len(numbers) % FIELD_SIZE != 0 or len(numbers) > FIELD_SIZE * MOST_FIELDS:
        return False
    for place, number in enumerate(numbers):
        bounds = FIELD_RANGES[place % FIELD_SIZE]
        if number < bounds[0] or number > bounds[1]:
            return False
    return True


def fields_of(numbers):
    """The fields of a list that is as told."""
    return [Field(numbers[k:k + FIELD_SIZE]) for k in range(0, len(numbers), FIELD_SIZE)]


def numbers_of(face):
    """The list that tells an interface: its fields' numbers, one field behind another."""
    numbers = []
    for field in face:
        numbers.extend(field_numbers(field))
    return numbers


def is_right(field):
    """Whether a field's width and fixed are right for its kind."""
    if field.kind == CONSTANT:
        return field.fixed < 1 << field.width
    if field.fixed != 0:
        return False
    if field.kind == SIGNED:
        return field.width >= 2
    if field.kind == DIGITS:
        return field.width % 4 == 0
    return True


def share_a_bit(face):
    """Whether two fields share a bit."""
    taken = 0
    for field in face:
        if taken & field_mask(field) != 0:
            return True
        taken = taken | field_mask(field)
    return False


def share_a_name(face):
    """Whether two fields have the same name."""
    return len(set([field.name for field in face])) < len(face)


def layout_refusal(face):
    """The refusal of an interface whose list is as told; 0 if it's right."""
    if any([field.low + field.width > 31 for field in face]):
        return -3
    if not all([is_right(field) for field in face]):
        return -4
    if share_a_bit(face):
        return -5
    if share_a_name(face):
        return -6
    return 0


def spare_count(face):
    """How many of the bits 0 to 30 are no field's."""
    return 31 - sum([field.width for field in face])


def spare_mask(face):
    """The word in which just the spare bits are 1."""
    return ALL_FIELD_BITS - sum([field_mask(field) for field in face])
