"""Stills: in which row how many tenths of the spirit and of the water run off, and what a cut makes of them."""

from twicerun.errors import NoCut, NoStill
from twicerun.fractions import fraction, is_pair, is_whole_within


def is_row(thing):
    return is_pair(thing) and is_whole_within(thing[0], 0, 10) and is_whole_within(thing[1], 0, 10)


def tenths(rows, part):
    return sum(row[part] for row in rows)


def are_rows(thing):
    if not isinstance(thing, tuple) or not 1 <= len(thing) <= 8:
        return False
    if not all(is_row(row) for row in thing):
        return False
    return tenths(thing, 0) <= 10 and tenths(thing, 1) <= 10


def is_still(thing):
    return is_pair(thing) and are_rows(thing[0]) and is_whole_within(thing[1], 0, 9)


def check_still(still):
    if not is_still(still):
        raise NoStill("no STILL")


def is_cut(still, thing):
    check_still(still)
    many = len(still[0])
    return is_pair(thing) and is_whole_within(thing[0], 0, many) and is_whole_within(thing[1], thing[0], many)


def check_cut(still, cut):
    if not is_cut(still, cut):
        raise NoCut("no CUT of this STILL")


def shares_of(still, cut, part):
    rows, loss = still
    heart_from, tails_from = cut
    # Of each tenth that runs off so many hundredths of the charge are not lost.
    left = 10 - loss
    heads = tenths(rows[:heart_from], part)
    heart = tenths(rows[heart_from:tails_from], part)
    tails = tenths(rows[tails_from:], part)
    off = heads + heart + tails
    return (
        fraction(heads * left, 100),
        fraction(heart * left, 100),
        fraction(tails * left, 100),
        fraction(10 - off, 10),
        fraction(off * loss, 100),
    )


def shares(still, cut):
    check_cut(still, cut)
    return (shares_of(still, cut, 0), shares_of(still, cut, 1))


def falls(still):
    check_still(still)
    rows = [row for row in still[0] if row != (0, 0)]
    for at, ahead in enumerate(rows):
        for other in rows[at + 1:]:
            if ahead[0] * other[1] < other[0] * ahead[1]:
                return False
    return True
