"""Clashes: the ledger held to the book of the duty's man."""

from twicerun.errors import NoTellings
from twicerun.fractions import is_whole
from twicerun.ledgers import check_stands, in_order
from twicerun.liquors import NOTHING, is_liquor
from twicerun.walks import step_of

MOST_TELLINGS = 20
# In the order in which step_of tells them.
WORDS = ("charge", "heart", "kept")


def is_telling(thing):
    if not isinstance(thing, tuple) or len(thing) != 3:
        return False
    number, word, told = thing
    return is_whole(number) and number >= 0 and isinstance(word, str) and word in WORDS and is_liquor(told)


def check_tellings(tellings):
    if not isinstance(tellings, tuple) or len(tellings) > MOST_TELLINGS:
        raise NoTellings(f"no tuple of at most {MOST_TELLINGS} tellings")
    if not all(is_telling(one) for one in tellings):
        raise NoTellings("not all are tellings")


def runs_done(rules, ledger):
    """For each run, as they are done, the LIQUORs by their WORDS."""
    told = []
    # Only runs change what is kept: the other deeds may be passed over.
    kept = NOTHING
    for number in in_order(ledger):
        deed = ledger[number][1]
        if deed[0] == "run":
            row = step_of(rules[:2], deed[1:], kept)
            kept = row[2]
            told.append(dict(zip(WORDS, row)))
    return told


def number_and_word(telling):
    return (telling[0], WORDS.index(telling[1]))


def clash(rules, ledger, tellings):
    check_stands(rules, ledger)
    check_tellings(tellings)
    runs = runs_done(rules, ledger)
    # Those alike in number and word stay as they were handed in.
    for number, word, told in sorted(tellings, key=number_and_word):
        found = runs[number][word] if number < len(runs) else None
        if found != told:
            return (number, word, told, found)
    return None
