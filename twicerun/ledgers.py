"""Ledgers: deeds entered at days, late ones too, whether they can be done, and what stands on a day."""

from twicerun.duties import check_rules
from twicerun.errors import Fails, NoDay, NoLedger
from twicerun.fractions import is_pair, is_whole_within
from twicerun.stores import Store, do_deed
from twicerun.traces import all_of
from twicerun.walks import is_step

MOST_ENTRIES = 16
LAST_DAY = 9999
MOST_MEASURES = 9999


def is_name(thing):
    return isinstance(thing, str) and 1 <= len(thing) <= 6 and all("a" <= sign <= "z" for sign in thing)


def are_two_names(one, other):
    return is_name(one) and is_name(other) and one != other


def is_amount(thing):
    return is_whole_within(thing, 1, MOST_MEASURES)


def is_run(rules, rest):
    return is_step(rules[:2], rest)


def is_cask_and_amount(rules, rest):
    return len(rest) == 2 and is_name(rest[0]) and is_amount(rest[1])


def is_parting(rules, rest):
    return len(rest) == 3 and are_two_names(rest[0], rest[1]) and is_amount(rest[2])


def is_joining(rules, rest):
    return len(rest) == 2 and are_two_names(rest[0], rest[1])


# By the word of a deed, what its rest must be.
FORMS = {
    "run": is_run, "fill": is_cask_and_amount, "part": is_parting, "join": is_joining, "draw": is_cask_and_amount
}


def is_deed(rules, thing):
    check_rules(rules)
    if not isinstance(thing, tuple) or len(thing) == 0:
        return False
    word = thing[0]
    if not isinstance(word, str) or word not in FORMS:
        return False
    is_so = FORMS[word]
    return is_so(rules, thing[1:])


def is_day(thing):
    return is_whole_within(thing, 0, LAST_DAY)


def is_entry(rules, thing):
    return is_pair(thing) and is_day(thing[0]) and is_deed(rules, thing[1])


def is_ledger(rules, thing):
    check_rules(rules)
    if not isinstance(thing, tuple) or len(thing) > MOST_ENTRIES:
        return False
    return all(is_entry(rules, entry) for entry in thing)


def in_order(ledger):
    """The numbers of the entries as their deeds are done: by DAYs, those of one DAY as they were entered."""
    return sorted(range(len(ledger)), key=lambda number: ledger[number][0])


def first_failing(rules, ledger):
    """(DAY, WORD) of the first deed that fails, None where all can be done."""
    store = Store()
    for number in in_order(ledger):
        day, deed = ledger[number]
        # All runs under one number: whether a deed fails doesn't hang on which WASH is where.
        word = do_deed(rules, store, deed, 0)
        if word is not None:
            return (day, word)
    return None


def fails(rules, ledger):
    if not is_ledger(rules, ledger):
        raise NoLedger("no LEDGER")
    for number in range(len(ledger)):
        failing = first_failing(rules, ledger[:number + 1])
        if failing is not None:
            return (number, *failing)
    return None


def check_stands(rules, ledger):
    failing = fails(rules, ledger)
    if failing is not None:
        entry, day, word = failing
        raise Fails(entry, day, word)


def check_day(day):
    if not is_day(day):
        raise NoDay("no DAY")


def store_on(rules, ledger, day):
    """The Store behind all deeds of DAYs up to this one."""
    store = Store()
    for number in in_order(ledger):
        if ledger[number][0] <= day:
            do_deed(rules, store, ledger[number][1], number)
    return store


def casks_of(store):
    return tuple((name, all_of(store.casks[name])) for name in sorted(store.casks))


def standing(rules, ledger, day):
    check_stands(rules, ledger)
    check_day(day)
    store = store_on(rules, ledger, day)
    out = (store.pot, store.lost, store.samples, store.drawn)
    return (all_of(store.kept), all_of(store.receiver), casks_of(store), out)
