"""Papers: to a question the claim that is true, with the paper by which the checker takes it."""

from twicerun.floods import overflow
from twicerun.steadies import one_grows, steady, steady_liquor
from twicerun.takings import most


def paper_most(still, charge, heads, strength):
    spirit, taking, weight = most(still, charge, heads, strength)
    return (("most", still, charge, heads, strength, spirit), (taking, weight))


def paper_overflow(plan, steps, cap):
    told = overflow(plan, steps, cap)
    if told[0] == "later":
        return None
    claim = (told[0], plan, steps, cap) + told[1:]
    if told[0] == "over":
        return (claim, None)
    # From nothing on, what is kept never comes to more than the steady liquor.
    return (claim, steady_liquor(steady(plan, steps)))


def paper_steady(plan, steps):
    ways = steady(plan, steps)
    if one_grows(ways):
        return None
    return (("steady", plan, steps, steady_liquor(ways)), None)
