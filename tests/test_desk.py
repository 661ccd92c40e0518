import random
import unittest

from tests import ledgers_by_hand, makers
from tests.test_duties import NO_RULES
from tests.test_houses import house_of
from tests.test_ledgers import EASY, HOUSE
from tests.test_movings import dice_ledgers
from tests.things import outcome, things, told_and_unchanged
from twicerun.desk import Desk
from twicerun.errors import Fails, NoCount, NoDay, NoDeed, NoEntry, NoName, NoRow, NoRules

ROWS = (
    "run 3 60 40 0 2", "fill 5 oak 50", "run 4 20 80 0 1", "part 7 oak elm 20", "join 7 elm oak", "draw 9 oak 10",
)
# A row of each word.
QUESTIONS = ("casks 9", "made 9 oak", "kept 9", "duty 5", "then 5 2", "moved 2")
EACH = ROWS + QUESTIONS


def row_of(day, deed):
    """The row by which a deed is entered."""
    if deed[0] == "run":
        (spirit, water), (low, high) = deed[1:]
        return f"run {day} {spirit} {water} {low} {high}"
    return " ".join(map(str, (deed[0], day, *deed[1:])))


def text_of(pair):
    return str(makers.as_fraction(pair))


def joined(words):
    return " ".join(words) or "-"


def desk_of(rules, rows):
    desk = Desk(rules)
    for row in rows:
        desk.say(row)
    return desk


class Desks(unittest.TestCase):
    def check(self, desk, house, days):
        """The desk's answers are what the house tells, written as the interface says."""
        many = len(house.ledger())
        for day in days:
            there = house.standing(day)
            self.tell(desk, f"kept {day}", " ".join(map(text_of, there[0])))
            self.tell(desk, f"casks {day}", joined(
                f"{name} {text_of(spirit)} {text_of(water)}" for name, (spirit, water) in there[2]))
            for name, liquor in there[2]:
                self.tell(desk, f"made {day} {name}", joined(
                    f"{entry} {text_of(spirit)} {text_of(water)}"
                    for entry, (spirit, water) in house.made_of(day, name)))
            self.tell(desk, f"duty {day}", text_of(house.duty_then(day, many)))
            for some in (0, many // 2, many):
                self.tell(desk, f"then {day} {some}", text_of(house.duty_then(day, some)))
        for entry in range(many):
            casks, moved = house.moved(entry)
            self.tell(desk, f"moved {entry}", joined([row[0] for row in casks] + [str(row[0]) for row in moved]))

    def tell(self, desk, row, wanted):
        told = desk.say(row)
        self.assertIs(type(told), str)
        self.assertEqual(told, wanted, row)

    def test_example(self):
        desk = Desk(EASY)
        for row, answer in (
            ("casks 9999", "-"), ("kept 0", "0 0"), ("duty 5", "0"), ("then 5 0", "0"), (ROWS[0], "ok"), ("moved 0", "-"),
            (ROWS[1], "ok"), ("moved 1", "oak 5"), ("casks 4", "-"), ("casks 5", "oak 30 20"), ("duty 5", "600"),
            (ROWS[2], "ok"), ("moved 2", "oak 5"), ("duty 5", "700/3"), ("then 5 2", "600"), ("then 5 1", "0"),
            ("casks 5", "oak 70/3 80/3"), ("kept 3", "0 0"), ("kept 4", "10 40"),
            ("made 5 oak", "0 20 40/3 2 10/3 40/3"), (ROWS[3], "ok"), ("moved 3", "elm oak"),
            ("casks 7", "elm 28/3 32/3 oak 14 16"), (ROWS[4], "ok"), ("casks 7", "elm 0 0 oak 70/3 80/3"),
            ("made 7 elm", "-"), ("moved 4", "elm oak"), (ROWS[5], "ok"), ("casks 9", "elm 0 0 oak 56/3 64/3"),
            ("moved 5", "oak"), ("moved 1", "oak 5"), ("duty 9", "0"),
        ):
            self.tell(desk, row, answer)
        self.check(desk, house_of(EASY, HOUSE), (0, 3, 4, 5, 7, 9, 9999))

    def test_rows_and_deeds_are_the_same(self):
        self.assertEqual(tuple(row_of(*entry) for entry in HOUSE), ROWS)

    def test_of_dice(self):
        for rules, ledger in dice_ledgers(72, 6):
            desk = desk_of(rules, [])
            for number, (day, deed) in enumerate(ledger):
                self.tell(desk, row_of(day, deed), "ok")
            self.check(desk, house_of(rules, ledger), (0, 7, 9999))

    def test_moved_tells_several_casks_and_days(self):
        desk = desk_of(EASY, ["run 1 60 40 0 2", "fill 20 b 5", "fill 3 c 5", "fill 9 a 5", "run 2 0 40 0 2"])
        self.tell(desk, "moved 4", "a b c 3 9 20")
        self.tell(desk, "moved 2", "c 3")

    def test_a_duty_of_0_is_told_as_0(self):
        desk = desk_of(EASY, ["run 1 0 40 0 2", "fill 2 a 5"])
        self.tell(desk, "duty 2", "0")
        self.tell(desk, "moved 1", "a 2")
        self.tell(desk, "casks 2", "a 0 5")
        self.tell(desk, "made 2 a", "0 0 5")

    def test_casks_called_by_words_of_the_rows(self):
        names = ("run", "fill", "part", "join", "draw", "casks", "made", "kept", "duty", "then", "moved", "ok")
        desk = desk_of(EASY, ["run 1 60 40 0 2"] + [f"fill 2 {name} 5" for name in names[:-1]])
        self.tell(desk, "part 3 run ok 2", "ok")
        self.tell(desk, "join 4 casks made", "ok")
        self.tell(desk, "draw 5 draw 5", "ok")
        told = {"run": "9/5 6/5", "ok": "6/5 4/5", "casks": "0 0", "made": "6 4", "draw": "0 0"}
        self.tell(desk, "casks 9", " ".join(f"{name} {told.get(name, '3 2')}" for name in sorted(names)))
        self.tell(desk, "made 9 made", "0 6 4")
        self.tell(desk, "made 9 draw", "-")

    def test_numbers_just_within_and_beyond(self):
        for row in ("casks 9999", "casks 0", "run 0 0 0 0 0", "run 9999 9999 9999 0 0", "run 3 9999 0 2 2"):
            told = outcome(desk_of((EASY[0], EASY[1], 99999) + EASY[3:], ROWS).say, row)
            self.assertEqual(told[0], "told", row)


class Refusals(unittest.TestCase):
    def check(self, kind, rows, before=ROWS):
        """Each row is refused with its class and changes nothing."""
        desk = desk_of(EASY, before)
        asked = ("casks 9999", "kept 9999", "duty 5", *(f"moved {entry}" for entry in range(len(before))))
        told = [desk.say(row) for row in asked]
        for row in rows:
            self.assertEqual(told_and_unchanged(self, desk.say, row), ("refused", kind), row)
        self.assertEqual([desk.say(row) for row in asked], told)
        if len(before) < 16:
            # The next entry has the next number.
            self.assertEqual(desk.say("run 9999 0 0 0 2"), "ok")
            self.assertEqual(desk.say(f"moved {len(before)}"), "-")
            self.assertEqual(outcome(desk.say, f"moved {len(before) + 1}"), ("refused", NoEntry))

    def test_another_word(self):
        words = ("walk", "Run", "RUN", "runs", "ru", "ok", "ledger", "-", "0", "9", "enter", "standing", "made_of", "duties")
        self.check(NoRow, [" ".join([word] + row.split(" ")[1:]) for row in EACH for word in words])
        self.check(NoRow, words)

    def test_another_number_of_words(self):
        rows = []
        for row in EACH:
            rows += [row + " 1", row + " oak", row.rpartition(" ")[0], row.partition(" ")[0], row.partition(" ")[2]]
        self.check(NoRow, rows)

    def test_blanks(self):
        rows = ["", " ", "  "]
        for row in EACH:
            rows += [" " + row, row + " ", row + "  ", row + "\n", "\n" + row, row + "\t"]
            rows += [row[:at] + other + row[at + 1:] for at, sign in enumerate(row) if sign == " "
                     for other in ("  ", "\t", "\n", "", " \t", "\u00a0", ",", "_", " - ")]
        self.check(NoRow, rows)

    def test_what_is_no_text(self):
        rows = [thing for thing in things() if not isinstance(thing, str)] + [0, b"kept 9", ("kept", 9), ["kept 9"],
                                                                              ("kept 9",), ("kept", "9"), b"casks 9"]
        self.check(NoRow, rows)
        self.check(NoRow, [thing for thing in things() if isinstance(thing, str)])

    def test_what_is_no_number(self):
        wrong = ("", "00", "01", "007", "09", "+1", "-1", "-0", "+0", "1234567890", "1000000000", "0000000000", "a", "one",
                 "1a", "a1", "0x1", "1.0", "1.", "1/1", "1,0", "1_0", "1e1", "\u0661", "\u00b2", "\uff11", "(1)", "'1'",
                 "\u0967\u0968", "1\n", "1 ", "None", "True", "oak", "9999999999", "1" * 40)
        rows = []
        for row in EACH:
            words = row.split(" ")
            for at, word in enumerate(words):
                if word[0] in "0123456789":
                    rows += [" ".join(words[:at] + [other] + words[at + 1:]) for other in wrong]
        self.check(NoRow, rows)

    def test_what_is_no_name(self):
        wrong = ("", "abcdefg", "A", "Oak", "oaK", "a1", "1", "a-b", "a_b", "-", "\u00e4", "a\n", "o'k", "{", "`", "12",
                 "\u00df", "\u0430", "oakoakoak")
        rows = []
        for row in EACH:
            words = row.split(" ")
            for at, word in enumerate(words):
                if at > 0 and word[0] not in "0123456789":
                    rows += [" ".join(words[:at] + [other] + words[at + 1:]) for other in wrong]
        self.check(NoRow, rows)

    def test_no_row_goes_ahead_of_the_rest(self):
        self.check(NoRow, ["run 99999 1 1 1 01", "fill 10000 Oak 5", "fill 5 oak 0 0", "made 10000 Z", "then 10000 07",
                           "draw 99999 z 01", "moved 99 99"])
        full = ("run 1 90 90 0 2",) + tuple(f"fill 2 {name} 1" for name in "abcdefghijklmno")
        self.check(NoRow, ["run 1 1 1 0", "fill 1 Z 1", "draw 01 a 1"], full)

    def test_no_day(self):
        rows = []
        for row in EACH:
            words = row.split(" ")
            if words[0] != "moved":
                rows += [" ".join([words[0], day] + words[2:]) for day in ("10000", "99999", "999999999", "123456789")]
        self.check(NoDay, rows)
        self.check(NoDay, ["fill 10000 oak 0", "part 10000 z z 0", "made 10000 z", "then 10000 99"])

    def test_no_day_where_sixteen_are(self):
        full = ("run 1 90 90 0 2",) + tuple(f"fill 2 {name} 1" for name in "abcdefghijklmno")
        self.check(NoDay, ["run 1 0 0 0 0", "draw 3 a 1", "draw 3 z 1", "draw 3 a 0", "part 3 a a 1"], full)

    def test_no_deed(self):
        self.check(NoDeed, [
            "run 3 10000 0 0 2", "run 3 0 10000 0 2", "run 3 1 1 0 3", "run 3 1 1 2 1", "run 3 1 1 3 3", "fill 5 elms 0",
            "fill 5 elms 10000", "part 7 oak oak 5", "part 7 oak ash 0", "part 7 oak ash 10000", "join 7 oak oak",
            "draw 9 oak 0", "draw 9 oak 10000", "draw 9 oak 999999999", "part 7 z z 0",
        ])

    def test_fails(self):
        rows = (("fill 6 oak 5", (6, 6, "twice")), ("run 0 9999 0 0 0", (6, 0, "full")), ("draw 9 oak 41", (6, 9, "less")),
                ("draw 6 elm 1", (6, 6, "nothing")), ("draw 6 oak 45", (6, 7, "less")), ("join 9 oak z", (6, 9, "nothing")))
        self.check(Fails, [row for row, told in rows])
        for row, told in rows:
            with self.assertRaises(Fails) as caught:
                desk_of(EASY, ROWS).say(row)
            self.assertEqual((caught.exception.entry, caught.exception.day, caught.exception.word), told)

    def test_no_name(self):
        self.check(NoName, ["made 9 z", "made 4 oak", "made 6 elm", "made 9999 made"])

    def test_no_count_and_no_entry(self):
        self.check(NoCount, ["then 5 7", "then 5 999999999"])
        self.check(NoEntry, ["moved 6", "moved 16", "moved 999999999"])
        self.check(NoEntry, ["moved 0"], ())

    def test_no_rules(self):
        for rules in NO_RULES:
            self.assertEqual(told_and_unchanged(self, Desk, rules), ("refused", NoRules))

    def test_two_desks_beside_each_other(self):
        one, other = Desk(EASY), Desk(EASY)
        for row in ROWS:
            one.say(row)
        self.assertEqual((one.say("casks 9"), other.say("casks 9")), ("elm 0 0 oak 56/3 64/3", "-"))

    def test_what_was_refused_is_not_there_later(self):
        dice = random.Random(73)
        rules = ledgers_by_hand.dice_rules(dice)
        ledger = ledgers_by_hand.dice_ledger(dice, rules, 9)
        one, other = Desk(rules), Desk(rules)
        for day, deed in ledger:
            for row in ("", None, "fill 9 Z 1", "draw 10000 a 1", "part 5 z z 1", "draw 5 zz 1"):
                self.assertEqual(outcome(one.say, row)[0], "refused")
            self.assertEqual(one.say(row_of(day, deed)), other.say(row_of(day, deed)))
            self.assertEqual(one.say(f"casks {day}"), other.say(f"casks {day}"))
