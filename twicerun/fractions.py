"""Fractions: tuples (TOP, BOTTOM) of whole numbers in lowest terms, BOTTOM from 1 on."""

from twicerun.errors import NoNumber

ZERO = (0, 1)
ONE = (1, 1)


def is_whole(thing):
    # Python counts True and False as ints; here they are no numbers.
    return isinstance(thing, int) and not isinstance(thing, bool)


def is_whole_within(thing, least, most):
    return is_whole(thing) and least <= thing <= most


def is_pair(thing):
    return isinstance(thing, tuple) and len(thing) == 2


def common_divisor(one, other):
    while other != 0:
        one, other = other, one % other
    return abs(one)


def is_fraction(thing):
    if not is_pair(thing):
        return False
    top, bottom = thing
    if not is_whole(top) or not is_whole(bottom):
        return False
    return bottom >= 1 and common_divisor(top, bottom) == 1


def fraction(top, bottom):
    if bottom == 0:
        raise NoNumber("divided by 0")
    divisor = common_divisor(top, bottom)
    if bottom < 0:
        divisor = -divisor
    return (top // divisor, bottom // divisor)


def plus(a, b):
    divisor = common_divisor(a[1], b[1])
    top = a[0] * (b[1] // divisor) + b[0] * (a[1] // divisor)
    # Whatever divides this top and one of the bottoms divides the divisor: mostly a short number, quickly done with.
    rest = common_divisor(top, divisor)
    return (top // rest, a[1] // divisor * (b[1] // rest))


def minus(a, b):
    return plus(a, (-b[0], b[1]))


def times(a, b):
    # Crosswise, as a long number is quickly divided by a short one, two long products are not.
    one, other = fraction(a[0], b[1]), fraction(b[0], a[1])
    return (one[0] * other[0], one[1] * other[1])


def over(a, b):
    return times(a, fraction(b[1], b[0]))


def below(a, b):
    return a[0] * b[1] < b[0] * a[1]
