"""Steady liquors: to what the charger comes in the long run, and how soon it is near."""

from twicerun.errors import NoFine, NoLiquor
from twicerun.fractions import ONE, ZERO, below, is_whole_within, minus, over
from twicerun.liquors import check_liquor, measures
from twicerun.loops import MOST_ROUNDS, loop, rounds_until

MOST_KEPT = 99999
MOST_FINE = 1000000


def way_of(change):
    factor, added = change
    if factor != ONE:
        return ("comes", over(added, minus(ONE, factor)))
    if added != ZERO:
        return ("grows", added)
    return ("stays",)


def steady(plan, steps):
    spirit, water = loop(plan, steps)
    return (way_of(spirit), way_of(water))


def one_grows(ways):
    return any(way[0] == "grows" for way in ways)


def steady_part(way):
    # What stays has no X; with nothing kept at first it is 0 for ever.
    return way[1] if way[0] == "comes" else ZERO


def steady_liquor(ways):
    return (steady_part(ways[0]), steady_part(ways[1]))


def check_kept(kept):
    check_liquor(kept)
    if below((MOST_KEPT, 1), measures(kept)):
        raise NoLiquor(f"more than {MOST_KEPT} measures kept")


def check_fine(fine):
    if not is_whole_within(fine, 1, MOST_FINE):
        raise NoFine("no FINE")


def is_part_near(way, amount, fine):
    if way[0] == "stays":
        return True
    apart = minus(amount, way[1])
    return abs(apart[0]) * fine <= apart[1]


def is_near(ways, kept, fine):
    return is_part_near(ways[0], kept[0], fine) and is_part_near(ways[1], kept[1], fine)


def near(plan, steps, kept, fine):
    ways = steady(plan, steps)
    check_kept(kept)
    check_fine(fine)
    if one_grows(ways):
        return None
    # A FACTOR below 1 is at most 9/10, and neither KEPT nor X is ever a million: so 400 ROUNDs always do.
    return rounds_until(loop(plan, steps), kept, lambda there: is_near(ways, there, fine), MOST_ROUNDS)
