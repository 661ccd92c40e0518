"""Houses: RULES and a LEDGER that is entered deed for deed."""

from twicerun.casks import made_of
from twicerun.duties import check_rules
from twicerun.errors import NoDay, NoDeed
from twicerun.ledgers import MOST_ENTRIES, check_day, is_deed, standing
from twicerun.movings import duties, duty_then, moved


class House:
    def __init__(self, rules):
        check_rules(rules)
        self.rules = rules
        self.entries = ()

    def enter(self, day, deed):
        """Enters a deed and tells what it moved; where it is refused the LEDGER stays as it was."""
        check_day(day)
        if len(self.entries) == MOST_ENTRIES:
            raise NoDay(f"{MOST_ENTRIES} entries are there")
        if not is_deed(self.rules, deed):
            raise NoDeed("no deed")
        later = self.entries + ((day, deed),)
        told = moved(self.rules, later, len(self.entries))
        self.entries = later
        return told

    def ledger(self):
        return self.entries

    def standing(self, day):
        return standing(self.rules, self.entries, day)

    def made_of(self, day, cask):
        return made_of(self.rules, self.entries, day, cask)

    def duties(self):
        return duties(self.rules, self.entries)

    def duty_then(self, day, many):
        return duty_then(self.rules, self.entries, day, many)

    def moved(self, entry):
        return moved(self.rules, self.entries, entry)
