"""Loops: what a ROUND of steps, done again and again, makes of what is kept.

A CHANGE is a tuple (FACTOR, ADDED): of spirit or of water, what is kept comes to FACTOR times itself and ADDED.
"""

from twicerun.errors import NoCount
from twicerun.fractions import fraction, is_whole_within, plus, times
from twicerun.liquors import check_liquor
from twicerun.stills import shares_of
from twicerun.walks import check_plan, check_steps, cut_all_heart

MOST_IN_ROUND = 3
MOST_ROUNDS = 400
NO_CHANGE = ((1, 1), (0, 1))


def changed(change, amount):
    return plus(times(change[0], amount), change[1])


def one_behind_other(ahead, later):
    return (times(later[0], ahead[0]), changed(later, ahead[1]))


def brought(plan, step, part):
    """What the WASH of a STEP brings to the CHARGE."""
    first = plan[0]
    off = shares_of(first, cut_all_heart(first), part)[1]
    return times(off, fraction(step[0][part], 1))


def kept_share(plan, step, part):
    """Which part of the CHARGE is kept: heads and tails."""
    parts = shares_of(plan[1], step[1], part)
    return plus(parts[0], parts[2])


def change_of_step(plan, step, part):
    factor = kept_share(plan, step, part)
    # The wash passes the second still together with what was kept.
    return (factor, times(factor, brought(plan, step, part)))


def change_of_round(plan, steps, part):
    change = NO_CHANGE
    for step in steps:
        change = one_behind_other(change, change_of_step(plan, step, part))
    return change


def change_of_rounds(change, many):
    """The CHANGE of so many ROUNDs, by doubling, so that none is run."""
    told = NO_CHANGE
    while many > 0:
        if many % 2 == 1:
            told = one_behind_other(told, change)
        change = one_behind_other(change, change)
        many //= 2
    return told


def check_round(plan, steps):
    check_plan(plan)
    check_steps(plan, steps, MOST_IN_ROUND)


def loop(plan, steps):
    check_round(plan, steps)
    return (change_of_round(plan, steps, 0), change_of_round(plan, steps, 1))


def liquor_behind(changes, kept):
    return (changed(changes[0], kept[0]), changed(changes[1], kept[1]))


def behind(plan, steps, kept, many):
    spirit, water = loop(plan, steps)
    check_liquor(kept)
    if not is_whole_within(many, 0, MOST_ROUNDS):
        raise NoCount("no number of ROUNDs")
    return liquor_behind((change_of_rounds(spirit, many), change_of_rounds(water, many)), kept)


def leaps(changes, kept, is_so, most):
    """Leaps of 1, 2, 4, .. ROUNDs, up to most, with their CHANGEs: those behind which kept isn't yet so."""
    told = []
    length = 1
    while length <= most and not is_so(liquor_behind(changes, kept)):
        told.append((length, changes))
        changes = (one_behind_other(changes[0], changes[0]), one_behind_other(changes[1], changes[1]))
        length *= 2
    return told


def rounds_until(changes, kept, is_so, most):
    """The least number of ROUNDs, up to most, behind which what is kept is so; None where it isn't by then.

    What is so must stay so behind any more ROUNDs: then leaps find the number, and no ROUND is run.
    """
    if is_so(kept):
        return 0
    many = 0
    found = leaps(changes, kept, is_so, most)
    for length, leap in reversed(found):
        later = liquor_behind(leap, kept)
        if not is_so(later):
            kept = later
            many += length
    return many + 1 if many < most else None
