"""Two interfaces: whether one reads every word that another makes, and with the same values."""

from wordfields.fields import CONSTANT
from wordfields.fields import DIGITS
from wordfields.fields import field_bits
from wordfields.fields import field_mask
from wordfields.fields import number_of
from wordfields.fields import told_fields
from wordfields.words import constant_bits

NOTHING = 1
UNLIKE = 2


class Made:
    """All words of an interface, without going through them (the parity bit aside, which is no field's)."""

    def __init__(self, face):
        self.zeros = constant_bits(face)
        self.free = 0
        self.digit_starts = {}
        for field in told_fields(face):
            self.free = self.free | field_mask(field)
            if field.kind == DIGITS:
                self.note_digits(field)

    def note_digits(self, field):
        """Keep for each bit of a field of digits where its decimal digit begins."""
        for place in range(field.width):
            self.digit_starts[field.low + place] = field.low + place // 4 * 4


def can_both_be_one(made, first, second):
    """Whether there's a word in which two bits are 1."""
    both = (1 << first) | (1 << second)
    if (made.zeros | made.free) & both != both:
        return False
    start = made.digit_starts.get(first)
    if start is None or made.digit_starts.get(second) != start:
        return True
    # Within one decimal digit, the least pattern that has both must be a digit.
    return both >> start <= 9


def digits_can_fail(field, made):
    """Whether there's a word in which one of a field's fours is more than 9."""
    for start in range(field.low, field.low + field.width, 4):
        # More than 9 is an eight together with a four or a two.
        if can_both_be_one(made, start + 3, start + 2) or can_both_be_one(made, start + 3, start + 1):
            return True
    return False


def constant_can_fail(field, made):
    """Whether there's a word in which a constant's bits aren't fixed."""
    return made.free & field_mask(field) != 0 or field_bits(field, made.zeros) != field.fixed


def can_stand_for_nothing(field, made):
    """Whether there's a word in which a field's bits stand for nothing."""
    if field.kind == DIGITS:
        return digits_can_fail(field, made)
    return field.kind == CONSTANT and constant_can_fail(field, made)


def telling_words(made):
    """The word of zeros, and those that differ from it in one bit: like values in these are like values in all."""
    single_bits = [1 << b for b in range(31) if (made.free >> b) & 1 == 1]
    return [made.zeros] + [made.zeros | bit for bit in single_bits]


def have_unlike_values(x, y, made):
    """Whether there's a word in which two fields, whose bits always stand for something, have unlike values."""
    for word in telling_words(made):
        x_number = number_of(x, field_bits(x, word))
        y_number = number_of(y, field_bits(y, word))
        if x_number * x.num * y.den != y_number * y.num * x.den:
            return True
    return False


def trouble_of(field, maker, made):
    """By what a field that reads the words of another interface is in trouble; 0 if it isn't."""
    if can_stand_for_nothing(field, made):
        return NOTHING
    for other in maker:
        if other.name == field.name and have_unlike_values(field, other, made):
            return UNLIKE
    return 0


def first_trouble(maker, reader):
    """The place of the reader's first field in trouble, counted from 1, and by what; 0 and 0 if there's none."""
    made = Made(maker)
    for place, field in enumerate(reader, start=1):
        trouble = trouble_of(field, maker, made)
        if trouble != 0:
            return [place, trouble]
    return [0, 0]
