"""Takings: which part of the rows gives the most spirit at a strength, and a weight that shows so.

What a row spares is 100 S - STRENGTH M: it may be spent on rows that are too weak by themselves.
"""

from twicerun.errors import NoHeads, NoStrength, NoWeight
from twicerun.fractions import ONE, ZERO, below, is_whole_within, minus, over, plus, times
from twicerun.liquors import all_together, is_part, measures
from twicerun.runs import rows_of


def checked_rows(still, charge, heads, strength):
    rows = rows_of(still, charge)
    if not is_whole_within(heads, 0, len(rows)):
        raise NoHeads("no number of ROWS that are heads")
    if not is_whole_within(strength, 0, 100):
        raise NoStrength("no strength in hundredths")
    return rows


def spared(liquor, strength):
    return minus(times((100, 1), liquor[0]), times((strength, 1), measures(liquor)))


def ceiling(still, charge, heads, strength, weight):
    rows = checked_rows(still, charge, heads, strength)
    if not is_part(weight):
        raise NoWeight("no WEIGHT")
    told = ZERO
    for row in rows[heads:]:
        worth = plus(row[0], times(weight, spared(row, strength)))
        if worth[0] > 0:
            told = plus(told, worth)
    return told


def weight_of(row, strength):
    """The WEIGHT by which a row that is too weak is worth 0."""
    return over(row[0], minus(ZERO, spared(row, strength)))


def greatest_first(weights):
    """The keys of a dict of fractions, that of the greatest one first."""
    told = []
    for key in weights:
        place = 0
        while place < len(told) and not below(weights[told[place]], weights[key]):
            place += 1
        told.insert(place, key)
    return told


def taken_of(rows, taking):
    return all_together([(times(part, row[0]), times(part, row[1])) for part, row in zip(taking, rows)])


def take_weak(rows, strength, taking, weights):
    """Puts into taking of the weak rows, the greatest WEIGHT first, what the others spare; the WEIGHT where it ends."""
    left = spared(taken_of(rows, taking), strength)
    for at in greatest_first(weights):
        cost = minus(ZERO, spared(rows[at], strength))
        if below(left, cost):
            taking[at] = over(left, cost)
            return weights[at]
        taking[at] = ONE
        left = minus(left, cost)
    return ZERO


def most(still, charge, heads, strength):
    rows = checked_rows(still, charge, heads, strength)
    taking = []
    weights = {}
    for at, row in enumerate(rows):
        is_weak = spared(row, strength)[0] < 0
        taking.append(ONE if at >= heads and not is_weak else ZERO)
        # A weak row without spirit gives nothing, whatever is spent on it.
        if at >= heads and is_weak and row[0] != ZERO:
            weights[at] = weight_of(row, strength)
    weight = take_weak(rows, strength, taking, weights)
    return (taken_of(rows, taking)[0], tuple(taking), weight)


def best_cut(still, charge, heads, strength):
    rows = checked_rows(still, charge, heads, strength)
    best = (ZERO, (heads, heads))
    for heart_from in range(heads, len(rows)):
        for tails_from in range(heart_from, len(rows) + 1):
            heart = all_together(rows[heart_from:tails_from])
            if spared(heart, strength)[0] >= 0 and below(best[0], heart[0]):
                best = (heart[0], (heart_from, tails_from))
    return best
