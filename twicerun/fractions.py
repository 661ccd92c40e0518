"""Fractions: tuples (TOP, BOTTOM) of whole numbers in lowest terms, BOTTOM from 1 on."""

from twicerun.errors import NoNumber

ZERO = (0, 1)
ONE = (1, 1)


def is_whole(thing):
    # Python counts True and False as ints; here they are no numbers.
    return isinstance(thing, int) and not isinstance(thing, bool)


def is_whole_within(thing, least, most):
    return is_whole(thing) and least <= thing <= most


def is_pair(thing):
    return isinstance(thing, tuple) and len(thing) == 2


def common_divisor(one, other):
    while other != 0:
        one, other = other, one % other
    return abs(one)


def is_fraction(thing):
    if not is_pair(thing):
        return False
    top, bottom = thing
    if not is_whole(top) or not is_whole(bottom):
        return False
    return bottom >= 1 and common_divisor(top, bottom) == 1


def fraction(top, bottom):
    if bottom == 0:
        raise NoNumber("divided by 0")
    divisor = common_divisor(top, bottom)
    if bottom < 0:
        divisor = -divisor
    return (top // divisor, bottom // divisor)


def plus(a, b):
    return fraction(a[0] * b[1] + b[0] * a[1], a[1] * b[1])


def minus(a, b):
    return fraction(a[0] * b[1] - b[0] * a[1], a[1] * b[1])


def times(a, b):
    return fraction(a[0] * b[0], a[1] * b[1])


def over(a, b):
    return fraction(a[0] * b[1], a[1] * b[0])


def below(a, b):
    return a[0] * b[1] < b[0] * a[1]
