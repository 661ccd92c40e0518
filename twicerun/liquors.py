"""Liquors: tuples (SPIRIT, WATER) of fractions from 0 on, measures of each."""

from twicerun.errors import NoLiquor
from twicerun.fractions import is_fraction, is_pair, over, plus

NOTHING = ((0, 1), (0, 1))


def is_part(thing):
    return is_fraction(thing) and thing[0] >= 0


def is_liquor(thing):
    return is_pair(thing) and is_part(thing[0]) and is_part(thing[1])


def check_liquor(thing):
    if not is_liquor(thing):
        raise NoLiquor("no LIQUOR")


def together(one, other):
    return (plus(one[0], other[0]), plus(one[1], other[1]))


def all_together(liquors):
    told = NOTHING
    for one in liquors:
        told = together(told, one)
    return told


def measures(liquor):
    return plus(liquor[0], liquor[1])


def strength(liquor):
    whole = measures(liquor)
    if whole[0] == 0:
        return None
    return over(liquor[0], whole)
