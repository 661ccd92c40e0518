"""Refusals: each class stands under StillError alone."""


class StillError(ValueError):
    """Any refusal."""


class NoNumber(StillError):
    """A fraction of a bottom 0, or something divided by 0."""


class NoLiquor(StillError):
    """What is no LIQUOR, as a charge or as what is kept."""


class NoStill(StillError):
    """What is no STILL."""


class NoCut(StillError):
    """What is no CUT of the STILL."""


class NoPlan(StillError):
    """What is no PLAN."""


class NoStep(StillError):
    """What are no STEPs, or no ROUND."""


class NoCount(StillError):
    """What is no such number of ROUNDs, runs or entries."""


class NoFine(StillError):
    """What is no FINE."""


class NoCap(StillError):
    """What is no CAP."""


class NoStrength(StillError):
    """What is no strength in hundredths, or LOW above HIGH."""


class NoHeads(StillError):
    """What is no number of ROWS that are always heads."""


class NoWeight(StillError):
    """What is no WEIGHT."""


class NoDuty(StillError):
    """What is no DUTY."""


class NoRules(StillError):
    """What are no RULES."""


class NoDeed(StillError):
    """What is no deed."""


class NoLedger(StillError):
    """What is no LEDGER."""


class NoTellings(StillError):
    """What are no TELLINGS."""


class Fails(StillError):
    """A LEDGER that doesn't stand: by which entry, on which DAY, by which word."""

    def __init__(self, entry, day, word):
        self.entry = entry
        self.day = day
        self.word = word


class NoDay(StillError):
    """What is no DAY, or a DAY of one entry too many."""


class NoName(StillError):
    """What is no cask that is there."""


class NoEntry(StillError):
    """What is no number of an entry."""


class NoRow(StillError):
    """What is no row of words for the desk."""
