"""Loops: what a ROUND of steps, done again and again, makes of what is kept.

A CHANGE is a tuple (FACTOR, ADDED): of spirit or of water, what is kept comes to FACTOR times itself and ADDED.
"""

from twicerun.errors import NoCount
from twicerun.fractions import fraction, is_whole_within, plus, times
from twicerun.liquors import check_liquor
from twicerun.stills import shares
from twicerun.walks import check_plan, check_steps, cut_all_heart

MOST_IN_ROUND = 3
MOST_ROUNDS = 400
NO_CHANGE = ((1, 1), (0, 1))


def changed(change, amount):
    return plus(times(change[0], amount), change[1])


def one_behind_other(ahead, later):
    return (times(later[0], ahead[0]), changed(later, ahead[1]))


def change_of_step(plan, step, part):
    first, second = plan
    wash, cut = step
    off = shares(first, cut_all_heart(first))[part][1]
    parts = shares(second, cut)[part]
    factor = plus(parts[0], parts[2])
    # The wash passes the second still together with what was kept.
    return (factor, times(factor, times(off, fraction(wash[part], 1))))


def change_of_round(plan, steps, part):
    change = NO_CHANGE
    for step in steps:
        change = one_behind_other(change, change_of_step(plan, step, part))
    return change


def change_of_rounds(change, many):
    """The CHANGE of so many ROUNDs, by doubling, so that none is run."""
    told = NO_CHANGE
    while many > 0:
        if many % 2 == 1:
            told = one_behind_other(told, change)
        change = one_behind_other(change, change)
        many //= 2
    return told


def check_round(plan, steps):
    check_plan(plan)
    check_steps(plan, steps, MOST_IN_ROUND)


def loop(plan, steps):
    check_round(plan, steps)
    return (change_of_round(plan, steps, 0), change_of_round(plan, steps, 1))


def behind(plan, steps, kept, many):
    spirit, water = loop(plan, steps)
    check_liquor(kept)
    if not is_whole_within(many, 0, MOST_ROUNDS):
        raise NoCount("no number of ROUNDs")
    return (
        changed(change_of_rounds(spirit, many), kept[0]),
        changed(change_of_rounds(water, many), kept[1]),
    )
