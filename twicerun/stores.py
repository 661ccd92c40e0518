"""Stores: what is where behind some deeds, what a deed does to it, and by which word it fails.

Deeds come here in the form that ledgers asks of them.
"""

from twicerun.fractions import below, minus, over
from twicerun.liquors import NOTHING, measures, together
from twicerun.traces import all_of, mixed, share_of_each, step_of_mixture
from twicerun.walks import step_of


class Store:
    """KEPT, the receiver and the casks by their names, all as MIXTUREs, and what is out, as LIQUORs."""

    def __init__(self):
        self.kept = {}
        self.receiver = {}
        self.casks = {}
        self.pot = NOTHING
        self.lost = NOTHING
        self.samples = NOTHING
        self.drawn = NOTHING


def amount_of(mixture):
    return measures(all_of(mixture))


def some_of(mixture, amount):
    """So many measures of a MIXTURE that isn't empty, as strong as all of it."""
    share = over(amount, amount_of(mixture))
    return share_of_each(mixture, share, share)


def is_less(mixture, amount):
    return below(amount_of(mixture), (amount, 1))


def do_run(rules, store, deed, number):
    plan, step = rules[:2], deed[1:]
    row = step_of(plan, step, all_of(store.kept))
    if below((rules[2], 1), measures(row[0])):
        return "full"
    heart, kept = step_of_mixture(plan, step, store.kept, number)
    store.kept = kept
    store.receiver = mixed(store.receiver, heart)
    store.pot = together(store.pot, row[3])
    store.lost = together(store.lost, row[4])
    return None


def do_fill(rules, store, deed, number):
    there = store.receiver
    amount, sample = deed[2], rules[3]
    if deed[1] in store.casks:
        return "twice"
    if is_less(there, amount + sample):
        return "less"
    store.casks[deed[1]] = some_of(there, (amount, 1))
    store.samples = together(store.samples, all_of(some_of(there, (sample, 1))))
    store.receiver = some_of(there, minus(amount_of(there), (amount + sample, 1)))
    return None


def pour_out(store, cask, amount):
    """Takes so many measures out of a cask and tells them."""
    there = store.casks[cask]
    store.casks[cask] = some_of(there, minus(amount_of(there), (amount, 1)))
    return some_of(there, (amount, 1))


def do_part(rules, store, deed, number):
    cask, new, amount = deed[1:]
    if cask not in store.casks:
        return "nothing"
    if new in store.casks:
        return "twice"
    if is_less(store.casks[cask], amount):
        return "less"
    store.casks[new] = pour_out(store, cask, amount)
    return None


def do_join(rules, store, deed, number):
    cask, into = deed[1:]
    if cask not in store.casks or into not in store.casks:
        return "nothing"
    store.casks[into] = mixed(store.casks[into], store.casks[cask])
    store.casks[cask] = {}
    return None


def do_draw(rules, store, deed, number):
    cask, amount = deed[1:]
    if cask not in store.casks:
        return "nothing"
    if is_less(store.casks[cask], amount):
        return "less"
    store.drawn = together(store.drawn, all_of(pour_out(store, cask, amount)))
    return None


DOINGS = {"run": do_run, "fill": do_fill, "part": do_part, "join": do_join, "draw": do_draw}


def do_deed(rules, store, deed, number):
    """Does a deed and tells None; one that fails isn't done, and its word is told.

    The WASH of a run has this number in the MIXTUREs.
    """
    doing = DOINGS[deed[0]]
    return doing(rules, store, deed, number)
