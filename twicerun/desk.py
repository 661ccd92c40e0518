"""The desk: rows of words told to a house, each answered with a text."""

from twicerun.errors import NoRow
from twicerun.houses import House
from twicerun.ledgers import is_name

MOST_FIGURES = 9
# By the first word of a row what stands behind it.
ROWS = {
    "run": ("DAY", "SPIRIT", "WATER", "H", "T"),
    "fill": ("DAY", "CASK", "M"),
    "part": ("DAY", "CASK", "NEW", "M"),
    "join": ("DAY", "CASK", "INTO"),
    "draw": ("DAY", "CASK", "M"),
    "casks": ("DAY",),
    "made": ("DAY", "CASK"),
    "kept": ("DAY",),
    "duty": ("DAY",),
    "then": ("DAY", "MANY"),
    "moved": ("ENTRY",),
}
# Of these the names; the others are numbers.
NAMES = ("CASK", "NEW", "INTO")


def is_number(word):
    if not 1 <= len(word) <= MOST_FIGURES or not all("0" <= sign <= "9" for sign in word):
        return False
    return word == "0" or word[0] != "0"


def part_of(kind, word):
    if kind in NAMES:
        if not is_name(word):
            raise NoRow("no name")
        return word
    if not is_number(word):
        raise NoRow("no number")
    return int(word)


def read_row(row):
    """The first word of a row, and the names and numbers behind it."""
    if not isinstance(row, str):
        raise NoRow("no text")
    word, *rest = row.split(" ")
    if word not in ROWS or len(rest) != len(ROWS[word]):
        raise NoRow("no such row")
    return word, [part_of(kind, one) for kind, one in zip(ROWS[word], rest)]


def deed_of(word, parts):
    if word == "run":
        spirit, water, heart_from, tails_from = parts
        return ("run", (spirit, water), (heart_from, tails_from))
    return (word, *parts)


def fraction_text(fraction):
    top, bottom = fraction
    return str(top) if bottom == 1 else f"{top}/{bottom}"


def liquor_text(liquor):
    return f"{fraction_text(liquor[0])} {fraction_text(liquor[1])}"


def list_text(words):
    return " ".join(words) if len(words) > 0 else "-"


def say_casks(house, day):
    return list_text([f"{name} {liquor_text(there)}" for name, there in house.standing(day)[2]])


def say_made(house, day, cask):
    return list_text([f"{entry} {liquor_text(there)}" for entry, there in house.made_of(day, cask)])


def say_kept(house, day):
    return liquor_text(house.standing(day)[0])


def say_duty(house, day):
    return fraction_text(house.duty_then(day, len(house.ledger())))


def say_then(house, day, many):
    return fraction_text(house.duty_then(day, many))


def say_moved(house, entry):
    casks, days = house.moved(entry)
    return list_text([str(row[0]) for row in casks + days])


# By the first words of the rows that ask; the others enter a deed.
ANSWERS = {
    "casks": say_casks, "made": say_made, "kept": say_kept, "duty": say_duty, "then": say_then, "moved": say_moved
}


class Desk:
    def __init__(self, rules):
        self.house = House(rules)

    def say(self, row):
        word, parts = read_row(row)
        if word in ANSWERS:
            answer = ANSWERS[word]
            return answer(self.house, *parts)
        day, *rest = parts
        self.house.enter(day, deed_of(word, rest))
        return "ok"
