"""Whole numbers and fractions: the one helper that all other files lean on.

A fraction is a tuple (top, bottom) without a common divisor, bottom from 1 on.
"""

NOUGHT = (0, 1)


def is_whole(thing):
    """Whether thing is an int that is no truth."""
    return isinstance(thing, int) and not isinstance(thing, bool)


def is_whole_within(thing, least, most):
    """Whether thing is a whole number from least to most."""
    return is_whole(thing) and least <= thing <= most


def is_tuple_of(thing, many):
    """Whether thing is a tuple of so many things."""
    return isinstance(thing, tuple) and len(thing) == many


def common_divisor(one, other):
    """The greatest common divisor; of nought and a number, that number."""
    one, other = abs(one), abs(other)
    while other != 0:
        one, other = other, one % other
    return one


def is_fraction(thing):
    """Whether thing is a fraction, of numbers of any figures."""
    if not is_tuple_of(thing, 2):
        return False
    top, bottom = thing
    if not is_whole(top) or not is_whole(bottom) or bottom < 1:
        return False
    return common_divisor(top, bottom) == 1


def fraction(top, bottom):
    """The fraction that top by bottom is, bottom above nought."""
    divisor = common_divisor(top, bottom)
    return (top // divisor, bottom // divisor)


def plus(one, other):
    """Both together, a fraction; common divisors do no harm."""
    return fraction(one[0] * other[1] + other[0] * one[1], one[1] * other[1])


def plus_whole(one, number):
    """A fraction and a whole number together: top and bottom have no common divisor then, either."""
    return (one[0] + number * one[1], one[1])


def times(one, other):
    """One times the other, a fraction."""
    return fraction(one[0] * other[0], one[1] * other[1])


def is_at_least(one, other):
    """Whether one is worth no less than the other; common divisors do no harm."""
    return one[0] * other[1] >= other[0] * one[1]


def common_multiple(numbers):
    """The least number that every one of the numbers divides."""
    common = 1
    for number in numbers:
        common = common * number // common_divisor(common, number)
    return common


def rising(fractions):
    """The unlike ones of the fractions, by what they are worth, as a new list."""
    unlike = list({one: True for one in fractions})
    common = common_multiple([bottom for top, bottom in unlike])
    return sorted(unlike, key=lambda one: one[0] * (common // one[1]))
