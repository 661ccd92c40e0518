"""The checker: whether a claim is so, as its paper shows.

It trusts the first three stages alone: what a PLAN, a ROUND, a CAP and a TAKING are, and where they lead, is said here
once more, by itself.
"""

from twicerun.fractions import ONE, ZERO, below, is_fraction, is_pair, is_whole_within, minus, plus, times
from twicerun.liquors import NOTHING, all_together, is_liquor, is_part, measures, together
from twicerun.runs import parts_of, rows_of, share_of
from twicerun.stills import is_cut, is_still

MOST_WASH = 9999
MOST_STEPS = 3
MOST_CAP = 99999
LAST_ROUND = 399


def is_taking(still, heads, thing):
    if not isinstance(thing, tuple) or len(thing) != len(still[0]):
        return False
    if not all(is_part(part) and not below(ONE, part) for part in thing):
        return False
    return all(part == ZERO for part in thing[:heads])


def spared(liquor, strength):
    """100 S - STRENGTH M: below 0 where it is not strong enough."""
    return minus(times((100, 1), liquor[0]), times((strength, 1), measures(liquor)))


def ceiling_of(rows, strength, weight):
    told = ZERO
    for row in rows:
        worth = plus(row[0], times(weight, spared(row, strength)))
        if below(ZERO, worth):
            told = plus(told, worth)
    return told


def is_question(still, charge, heads, strength):
    if not is_still(still) or not is_liquor(charge):
        return False
    return is_whole_within(heads, 0, len(still[0])) and is_whole_within(strength, 0, 100)


def is_most(still, charge, heads, strength, spirit, paper):
    if not is_question(still, charge, heads, strength) or not is_fraction(spirit):
        return False
    if not is_pair(paper) or not is_taking(still, heads, paper[0]) or not is_part(paper[1]):
        return False
    taking, weight = paper
    rows = rows_of(still, charge)
    heart = all_together([share_of(row, part, part) for row, part in zip(rows, taking)])
    if heart[0] != spirit or below(spared(heart, strength), ZERO):
        return False
    return not below(spirit, ceiling_of(rows[heads:], strength, weight))


def is_plan(thing):
    return is_pair(thing) and is_still(thing[0]) and is_still(thing[1])


def is_wash(thing):
    return is_pair(thing) and all(is_whole_within(amount, 0, MOST_WASH) for amount in thing)


def is_step(still, thing):
    return is_pair(thing) and is_wash(thing[0]) and is_cut(still, thing[1])


def are_plan_and_round(plan, steps):
    if not is_plan(plan) or not isinstance(steps, tuple) or not 1 <= len(steps) <= MOST_STEPS:
        return False
    return all(is_step(plan[1], step) for step in steps)


def is_cap(thing):
    return is_whole_within(thing, 1, MOST_CAP)


def do_step(plan, step, kept):
    """CHARGE and KEPT of a STEP ahead of which this is kept."""
    first, second = plan
    (spirit, water), cut = step
    # All rows being heart, the heart is all that runs off.
    off = parts_of(first, (0, len(first[0])), ((spirit, 1), (water, 1)))[1]
    charge = together(kept, off)
    heads, heart, tails, pot, lost = parts_of(second, cut, charge)
    return charge, together(heads, tails)


def do_round(plan, steps, kept):
    """The CHARGEs of a ROUND ahead of which this is kept, and what is kept behind it."""
    charges = []
    for step in steps:
        charge, kept = do_step(plan, step, kept)
        charges.append(charge)
    return charges, kept


def first_over(charges, cap):
    for number, (spirit, water) in enumerate(charges):
        # Not by adding both: behind many ROUNDs their bottoms are long and unlike, and a sum of them takes long.
        if below(minus((cap, 1), spirit), water):
            return number
    return None


def is_never(plan, steps, cap, paper):
    if not are_plan_and_round(plan, steps) or not is_cap(cap) or not is_liquor(paper):
        return False
    charges, behind = do_round(plan, steps, paper)
    no_more = not below(paper[0], behind[0]) and not below(paper[1], behind[1])
    return no_more and first_over(charges, cap) is None


def is_over(plan, steps, cap, last, at):
    if not are_plan_and_round(plan, steps) or not is_cap(cap):
        return False
    if not is_whole_within(last, 0, LAST_ROUND) or not is_whole_within(at, 0, len(steps) - 1):
        return False
    kept = NOTHING
    for number in range(last + 1):
        charges, kept = do_round(plan, steps, kept)
        found = first_over(charges, cap)
        if found is not None:
            return number == last and found == at
    return False


def is_steady(plan, steps, kept):
    return are_plan_and_round(plan, steps) and is_liquor(kept) and do_round(plan, steps, kept)[1] == kept


def holds(claim, paper):
    if not isinstance(claim, tuple) or len(claim) == 0 or not isinstance(claim[0], str):
        return False
    match claim:
        case ("most", still, charge, heads, strength, spirit):
            return is_most(still, charge, heads, strength, spirit, paper)
        case ("never", plan, steps, cap):
            return is_never(plan, steps, cap, paper)
        case ("over", plan, steps, cap, last, at) if paper is None:
            return is_over(plan, steps, cap, last, at)
        case ("steady", plan, steps, kept) if paper is None:
            return is_steady(plan, steps, kept)
    return False
