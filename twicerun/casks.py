"""Casks: of which washes, by the entries of their runs, a cask is made."""

from twicerun.errors import NoName
from twicerun.ledgers import check_day, check_stands, is_name, store_on
from twicerun.traces import rising


def made_of(rules, ledger, day, cask):
    check_stands(rules, ledger)
    check_day(day)
    casks = store_on(rules, ledger, day).casks
    if not is_name(cask) or cask not in casks:
        raise NoName("no cask that is there")
    return rising(casks[cask])
