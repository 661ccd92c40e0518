"""STILLs, CUTs, LIQUORs and STEPs, of examples and of dice that fall the same each time."""

from fractions import Fraction

GREAT = 10 ** 100 - 1
NOTHING = ((0, 1), (0, 1))


def as_fraction(pair):
    return Fraction(pair[0], pair[1])


def as_pair(value):
    return (value.numerator, value.denominator)


def total(liquors):
    """All LIQUORs together, reckoned without the program."""
    return tuple(as_pair(sum((as_fraction(one[part]) for one in liquors), Fraction(0))) for part in (0, 1))


def parted_tenths(dice, many):
    """So many whole numbers from 0 on, at most 10 together."""
    left = dice.choice((10, 10, 10, 7, 3, 0))
    told = [0] * many
    for _ in range(left):
        told[dice.randrange(many)] += 1
    if dice.randrange(3) == 0:
        told[dice.randrange(many)] = 0
    return told


def still(dice):
    many = dice.randrange(1, 9)
    return (tuple(zip(parted_tenths(dice, many), parted_tenths(dice, many))), dice.randrange(10))


def cut(dice, of):
    many = len(of[0])
    return tuple(sorted((dice.randrange(many + 1), dice.randrange(many + 1))))


def part(dice):
    most = dice.choice((1, 9, 500, GREAT))
    return as_pair(Fraction(dice.randrange(most + 1), dice.randrange(1, most + 1)))


def liquor(dice):
    return dice.choice((NOTHING, (part(dice), (0, 1)), ((0, 1), part(dice)), (part(dice), part(dice))))


def wash(dice):
    return (dice.choice((0, 1, 9999, dice.randrange(10000))), dice.choice((0, 1, 9999, dice.randrange(10000))))


def plan(dice):
    return (still(dice), still(dice))


def steps(dice, of, many):
    return tuple((wash(dice), cut(dice, of[1])) for _ in range(many))
