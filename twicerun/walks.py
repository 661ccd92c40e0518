"""Walks: steps one behind the other, what one keeps back being put to the next charge."""

from twicerun.errors import NoPlan, NoStep
from twicerun.fractions import fraction, is_pair, is_whole_within
from twicerun.liquors import check_liquor, together
from twicerun.runs import parts_of
from twicerun.stills import is_cut, is_still

MOST_STEPS = 20


def is_plan(thing):
    return is_pair(thing) and is_still(thing[0]) and is_still(thing[1])


def check_plan(plan):
    if not is_plan(plan):
        raise NoPlan("no PLAN")


def is_wash(thing):
    return is_pair(thing) and is_whole_within(thing[0], 0, 9999) and is_whole_within(thing[1], 0, 9999)


def is_step(plan, thing):
    return is_pair(thing) and is_wash(thing[0]) and is_cut(plan[1], thing[1])


def check_steps(plan, steps, most):
    if not isinstance(steps, tuple) or not 1 <= len(steps) <= most:
        raise NoStep(f"no tuple of 1 to {most} STEPs")
    if not all(is_step(plan, step) for step in steps):
        raise NoStep("not all are STEPs")


def cut_all_heart(still):
    return (0, len(still[0]))


def run_wash(still, wash):
    """What runs off less what is lost, what is in the pot, and what is lost."""
    charge = (fraction(wash[0], 1), fraction(wash[1], 1))
    parts = parts_of(still, cut_all_heart(still), charge)
    return parts[1], parts[3], parts[4]


def step_of(plan, step, kept):
    first, second = plan
    wash, cut = step
    off, first_pot, first_lost = run_wash(first, wash)
    charge = together(off, kept)
    heads, heart, tails, second_pot, second_lost = parts_of(second, cut, charge)
    pot = together(first_pot, second_pot)
    lost = together(first_lost, second_lost)
    return (charge, heart, together(heads, tails), pot, lost)


def walk(plan, steps, kept):
    check_plan(plan)
    check_steps(plan, steps, MOST_STEPS)
    check_liquor(kept)
    told = []
    for step in steps:
        row = step_of(plan, step, kept)
        told.append(row)
        kept = row[2]
    return tuple(told)
