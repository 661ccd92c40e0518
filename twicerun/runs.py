"""Runs: where the spirit and the water of a charge go, and the cut of a charge by strengths."""

from twicerun.errors import NoStrength
from twicerun.fractions import below, fraction, is_whole_within, times
from twicerun.liquors import check_liquor, strength
from twicerun.stills import check_cut, check_still, shares_of


def share_of(charge, spirit_share, water_share):
    return (times(spirit_share, charge[0]), times(water_share, charge[1]))


def parts_of(still, cut, charge):
    """What run tells, of what is known to be right."""
    spirit_shares, water_shares = shares_of(still, cut, 0), shares_of(still, cut, 1)
    return tuple(share_of(charge, spirit, water) for spirit, water in zip(spirit_shares, water_shares))


def run(still, cut, charge):
    check_cut(still, cut)
    check_liquor(charge)
    return parts_of(still, cut, charge)


def rows_of(still, charge):
    check_still(still)
    check_liquor(charge)
    rows, loss = still
    left = 10 - loss
    return tuple(share_of(charge, fraction(a * left, 100), fraction(b * left, 100)) for a, b in rows)


def check_strengths(high, low):
    # LOW above HIGH is refused like what is no strength at all.
    if not is_whole_within(high, 0, 100) or not is_whole_within(low, 0, high):
        raise NoStrength("no strengths HIGH and LOW")


def first_no_stronger(strengths, high):
    for at, found in enumerate(strengths):
        if found is not None and not below(high, found):
            return at
    return len(strengths)


def first_weaker(strengths, start, low):
    for at in range(start, len(strengths)):
        found = strengths[at]
        if found is not None and below(found, low):
            return at
    return len(strengths)


def cut_by(still, charge, high, low):
    # A row in which nothing runs off has no strength: None.
    strengths = [strength(row) for row in rows_of(still, charge)]
    check_strengths(high, low)
    heart_from = first_no_stronger(strengths, fraction(high, 100))
    return (heart_from, first_weaker(strengths, heart_from, fraction(low, 100)))
