"""Overflow: at which step the charger first overflows, and how great the washes may be so that it never does."""

from twicerun.errors import NoCap
from twicerun.fractions import ZERO, below, is_whole_within
from twicerun.liquors import NOTHING, measures
from twicerun.loops import MOST_ROUNDS, behind, loop, rounds_until
from twicerun.steadies import one_grows, steady, steady_liquor
from twicerun.walks import walk

MOST_CAP = 99999


def is_cap(thing):
    return is_whole_within(thing, 1, MOST_CAP)


def check_cap(cap):
    if not is_cap(cap):
        raise NoCap("no CAP")


def charges(plan, steps, kept):
    """The measures of each CHARGE of a ROUND ahead of which this is kept."""
    return [measures(row[0]) for row in walk(plan, steps, kept)]


def first_over(plan, steps, kept, cap):
    for number, charge in enumerate(charges(plan, steps, kept)):
        if below((cap, 1), charge):
            return number
    return None


def greatest_charge(plan, steps, kept):
    greatest = ZERO
    for charge in charges(plan, steps, kept):
        if below(greatest, charge):
            greatest = charge
    return greatest


def is_ever_over(plan, steps, ways, cap):
    # From nothing on, what is kept never falls, and it comes as near to the steady liquor as you like.
    return one_grows(ways) or first_over(plan, steps, steady_liquor(ways), cap) is not None


def overflow(plan, steps, cap):
    ways = steady(plan, steps)
    check_cap(cap)
    if not is_ever_over(plan, steps, ways, cap):
        return ("never",)
    many = rounds_until(
        loop(plan, steps), NOTHING, lambda kept: first_over(plan, steps, kept, cap) is not None, MOST_ROUNDS - 1
    )
    if many is None:
        return ("later",)
    return ("over", many, first_over(plan, steps, behind(plan, steps, NOTHING, many), cap))


def most_wash(plan, steps, cap):
    ways = steady(plan, steps)
    check_cap(cap)
    if one_grows(ways):
        return 0
    greatest = greatest_charge(plan, steps, steady_liquor(ways))
    if greatest == ZERO:
        return None
    # The steady CHARGEs grow as the WASHes do: so many times as great as these.
    return cap * greatest[1] // greatest[0]
