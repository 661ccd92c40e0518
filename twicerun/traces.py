"""Traces: of which washes a heart is made.

A MIXTURE is a dict: by the number of each wash the LIQUOR that came with it.
"""

from twicerun.errors import NoCount
from twicerun.fractions import ONE, is_whole_within, minus, plus, times
from twicerun.liquors import NOTHING, all_together, check_liquor, together
from twicerun.loops import brought, kept_share
from twicerun.runs import share_of
from twicerun.stills import shares_of
from twicerun.walks import MOST_STEPS, check_plan, check_steps, run_wash

KEPT_AT_FIRST = -1
MOST_AGES = 40


def mixed(one, other):
    told = dict(one)
    for number in other:
        told[number] = together(told.get(number, NOTHING), other[number])
    return told


def share_of_each(mixture, spirit_share, water_share):
    return {number: share_of(mixture[number], spirit_share, water_share) for number in mixture}


def all_of(mixture):
    return all_together(list(mixture.values()))


def rising(mixture):
    """What a MIXTURE is made of, as it is told: none that brought nothing."""
    return tuple((number, mixture[number]) for number in sorted(mixture) if mixture[number] != NOTHING)


def step_of_mixture(plan, step, kept, number):
    """HEART and KEPT, as MIXTUREs, of a STEP whose WASH has this number."""
    wash, cut = step
    charge = mixed(kept, {number: run_wash(plan[0], wash)[0]})
    spirit, water = shares_of(plan[1], cut, 0), shares_of(plan[1], cut, 1)
    heart = share_of_each(charge, spirit[1], water[1])
    return heart, share_of_each(charge, plus(spirit[0], spirit[2]), plus(water[0], water[2]))


def traced(plan, steps, kept):
    check_plan(plan)
    check_steps(plan, steps, MOST_STEPS)
    check_liquor(kept)
    told = []
    mixture = {KEPT_AT_FIRST: kept}
    for number, step in enumerate(steps):
        heart, mixture = step_of_mixture(plan, step, mixture, number)
        told.append(rising(heart))
    return tuple(told)


def ages_of_part(plan, step, part, many):
    factor = kept_share(plan, step, part)
    if factor == ONE or brought(plan, step, part)[0] == 0:
        return None
    fresh = minus(ONE, factor)
    told = []
    # Of the steady CHARGE, what is at least so old as reckoned by now.
    elder = ONE
    for number in range(many):
        told.append(times(elder, fresh))
        elder = times(elder, factor)
    told.append(elder)
    return tuple(told)


def ages(plan, steps, many):
    check_plan(plan)
    check_steps(plan, steps, 1)
    if not is_whole_within(many, 0, MOST_AGES):
        raise NoCount("no number of runs")
    step = steps[0]
    return (ages_of_part(plan, step, 0, many), ages_of_part(plan, step, 1, many))
