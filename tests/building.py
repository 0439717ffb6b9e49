"""Calls as lists of numbers, and answers one by one."""

from wordfields.faces import answers

WHOLE, SIGNED, DIGITS, CONSTANT = 0, 1, 2, 3


def field(name, kind, low, width, num=1, den=1, fixed=0):
    return [name, kind, low, width, num, den, fixed]


def face_of(i, numbers):
    return [0, i, len(numbers)] + numbers


def face(i, *fields):
    return face_of(i, [number for one in fields for number in one])


def encode(i, *numbers):
    return [1, i, len(numbers)] + list(numbers)


def decode(i, word):
    return [2, i, word]


def compare(a, b):
    return [3, a, b]


def through(a, b, *numbers):
    return [4, a, b, len(numbers)] + list(numbers)


def value(i, name, number):
    return [5, i, name, number]


def nearest(i, name, p, q):
    return [6, i, name, p, q]


def count(i):
    return [7, i]


def spare(i):
    return [8, i]


def names(a, b):
    return [9, a, b]


def drop(i):
    return [10, i]


def faces():
    return [11]


def layout(i):
    return [12, i]


def with_parity(word):
    """The word, its parity bit set if its ones would be even."""
    return word if bin(word).count("1") % 2 == 1 else word | 1 << 31


def run(*calls):
    """The answers to calls, a list for each."""
    flat = answers([number for call in calls for number in call])
    split = []
    place = 0
    while place < len(flat):
        split.append(flat[place + 1:place + 1 + flat[place]])
        place += 1 + flat[place]
    return split


def last(*calls):
    """The answer to the last call."""
    split = run(*calls)
    if len(split) != len(calls):
        raise AssertionError("%d answers to %d calls" % (len(split), len(calls)))
    return split[-1]
