"""Duty: what is paid for a liquor by its strength, and the RULES of a house."""

from twicerun.errors import NoDuty, NoRules
from twicerun.floods import is_cap
from twicerun.fractions import ZERO, below, fraction, is_pair, is_whole_within, times
from twicerun.liquors import check_liquor, strength
from twicerun.stills import is_still


def is_rate(thing):
    return is_pair(thing) and is_whole_within(thing[0], 0, 100) and is_whole_within(thing[1], 0, 999)


def is_duty(thing):
    if not isinstance(thing, tuple) or not 1 <= len(thing) <= 5:
        return False
    if not all(is_rate(row) for row in thing):
        return False
    starts = [row[0] for row in thing]
    return starts[0] == 0 and all(one < other for one, other in zip(starts, starts[1:]))


def rate_at(duty, found):
    told = 0
    for start, rate in duty:
        if not below(found, fraction(start, 100)):
            told = rate
    return told


def duty_of(duty, liquor):
    if not is_duty(duty):
        raise NoDuty("no DUTY")
    check_liquor(liquor)
    found = strength(liquor)
    if found is None:
        return ZERO
    return times(liquor[0], (rate_at(duty, found), 1))


def is_rules(thing):
    if not isinstance(thing, tuple) or len(thing) != 5:
        return False
    first, second, cap, sample, duty = thing
    return is_still(first) and is_still(second) and is_cap(cap) and is_whole_within(sample, 0, 9) and is_duty(duty)


def check_rules(rules):
    if not is_rules(rules):
        raise NoRules("no RULES")
