"""Movings: the duty of each day, as it is and as it stood, and what an entry moved."""

from twicerun.duties import duty_of
from twicerun.errors import NoCount, NoEntry
from twicerun.fractions import ZERO, is_whole_within, plus
from twicerun.ledgers import LAST_DAY, casks_of, check_day, check_stands, in_order, store_on
from twicerun.stores import Store, do_deed
from twicerun.traces import all_of


def duty_by_day(rules, ledger):
    """The duty of each DAY on which casks are filled, the DAYs rising."""
    store = Store()
    told = {}
    for number in in_order(ledger):
        day, deed = ledger[number]
        do_deed(rules, store, deed, number)
        if deed[0] == "fill":
            # At once: later deeds change what is in the cask, but not what was filled.
            filled = all_of(store.casks[deed[1]])
            told[day] = plus(told.get(day, ZERO), duty_of(rules[4], filled))
    return told


def duties(rules, ledger):
    check_stands(rules, ledger)
    return tuple(duty_by_day(rules, ledger).items())


def duty_then(rules, ledger, day, many):
    check_stands(rules, ledger)
    check_day(day)
    if not is_whole_within(many, 0, len(ledger)):
        raise NoCount("no number of entries")
    return duty_by_day(rules, ledger[:many]).get(day, ZERO)


def differing(then, now):
    """(KEY, THEN, NOW) of two dicts, KEYs rising; what was there by an entry less is there still."""
    return tuple((key, then.get(key), now[key]) for key in sorted(now) if then.get(key) != now[key])


def moved(rules, ledger, entry):
    check_stands(rules, ledger)
    if not is_whole_within(entry, 0, len(ledger) - 1):
        raise NoEntry("no number of an entry")
    then, now = ledger[:entry], ledger[:entry + 1]
    casks_then = dict(casks_of(store_on(rules, then, LAST_DAY)))
    casks_now = dict(casks_of(store_on(rules, now, LAST_DAY)))
    return (differing(casks_then, casks_now), differing(duty_by_day(rules, then), duty_by_day(rules, now)))
