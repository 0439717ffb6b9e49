"""One field of a word: what its bits stand for, which numbers fit it, and its value."""

# Kind 0, whole, needs no name: its bits stand for themselves.
SIGNED = 1
DIGITS = 2
CONSTANT = 3


class Field:
    """A field, by its seven numbers."""

    def __init__(self, numbers):
        self.name = numbers[0]
        self.kind = numbers[1]
        self.low = numbers[2]
        self.width = numbers[3]
        self.num = numbers[4]
        self.den = numbers[5]
        self.fixed = numbers[6]


def field_numbers(field):
    """A field's seven numbers, in the order in which they're told."""
    return [field.name, field.kind, field.low, field.width, field.num, field.den, field.fixed]


def told_fields(face):
    """The fields of an interface that aren't constants, in their order."""
    return [field for field in face if field.kind != CONSTANT]


def field_mask(field):
    """The word in which just the field's bits are 1."""
    return ((1 << field.width) - 1) << field.low


def field_bits(field, word):
    """The field's bits in a word, as a number."""
    return (word & field_mask(field)) >> field.low


def read_digits(bits, width):
    """The number whose decimal digits are the fours of bits; None if one of them is more than 9."""
    number = 0
    worth = 1
    for shift in range(0, width, 4):
        digit = (bits >> shift) & 15
        if digit > 9:
            return None
        number = number + digit * worth
        worth = worth * 10
    return number


def write_digits(number, width):
    """The bits of the lowest decimal digits of a number, as many as there is room for."""
    bits = 0
    rest = number
    for shift in range(0, width, 4):
        bits = bits | ((rest % 10) << shift)
        rest = rest // 10
    return bits


def number_of(field, bits):
    """The number that the bits of a field stand for; None if they stand for nothing."""
    if field.kind == SIGNED and bits >= 1 << (field.width - 1):
        return bits - (1 << field.width)
    if field.kind == DIGITS:
        return read_digits(bits, field.width)
    if field.kind == CONSTANT and bits != field.fixed:
        return None
    return bits


def bits_for(field, number):
    """The bits of a field that stand for a number; None if it doesn't fit."""
    if field.kind == DIGITS:
        bits = write_digits(number, field.width)
    else:
        bits = number % (1 << field.width)
    # If any bits stand for the number, it's these; so it fits just if they do.
    if number_of(field, bits) != number:
        return None
    return bits


def pattern_count(field):
    """How many unlike bits of a field stand for something."""
    if field.kind == CONSTANT:
        return 1
    if field.kind != DIGITS:
        return 1 << field.width
    patterns = 1
    for shift in range(0, field.width, 4):
        patterns = patterns * 10
    return patterns


def common_divisor(a, b):
    """The greatest common divisor of two numbers, 0 or more each."""
    while b > 0:
        rest = a % b
        a = b
        b = rest
    return a


def value_of(field, number):
    """The field's value for a number, in lowest terms: numerator and denominator."""
    over = number * field.num
    divisor = common_divisor(abs(over), field.den)
    return [over // divisor, field.den // divisor]


def nearest_number(field, p, q):
    """The whole number for which the field's value is nearest to p / q; of two as near the even one."""
    over = p * field.den
    under = q * field.num
    below = over // under
    twice_rest = 2 * (over % under)
    if twice_rest > under or (twice_rest == under and below % 2 == 1):
        return below + 1
    return below
