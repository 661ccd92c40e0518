import random
import unittest

from tests import ledgers_by_hand, makers
from tests.test_duties import NO_RULES, RULES
from tests.test_steadies import WHOLE
from tests.things import check_refusals, liquor, list_of, misspelt, outcome, things, told_and_unchanged, whole
from twicerun.errors import Fails, NoDay, NoLedger, NoRules
from twicerun.ledgers import fails, is_deed, is_ledger, standing
from twicerun.liquors import is_liquor, measures, strength

NOTHING = makers.NOTHING
# The first still lets all off; of two rows each lets off half: (0, 2) is all heart, (0, 1) half, (0, 0) none.
EASY = (WHOLE, (((5, 5), (5, 5)), 0), 1000, 2, ((0, 10), (50, 20)))
ALL_HEART = ("run", (60, 40), (0, 2))
RIGHT_DEEDS = [
    ("run", (0, 0), (0, 0)), ("run", (9999, 9999), (1, 3)), ("run", (1, 1), (3, 3)), ("fill", "a", 1),
    ("fill", "abcdef", 9999), ("part", "a", "b", 1), ("part", "zzzzzz", "zzzzz", 9999), ("join", "a", "b"),
    ("join", "run", "fill"), ("draw", "a", 1), ("draw", "draw", 9999),
]
WRONG_NAMES = [
    "", "abcdefg", "A", "aB", "a1", "1", " ", "a b", "a ", " a", "a-b", "a\n", "a_", "{", "`", "\u00e4", "\u00df",
    None, 1, True, b"a", ["a"], ("a",), ("a", "b"), {}, set(), len,
]
WRONG_AMOUNTS = [0, 10000, -1, True, False, None, "1", (1,), [1], (1, 1), 10 ** 100]
NO_DAYS = things() + [10000, -1, True, False, "1", "0", (1,), [1], (1, 1), 10 ** 100]


def wrong_deeds():
    told = things() + [list_of(deed) for deed in RIGHT_DEEDS]
    for deed in RIGHT_DEEDS:
        told += list(misspelt(deed)) + [deed[:-1], deed[1:], deed + (1,), deed + ("a",), ("pour",) + deed[1:], (deed,)]
    for word in ("fill", "draw"):
        told += [(word, name, 5) for name in WRONG_NAMES] + [(word, "a", amount) for amount in WRONG_AMOUNTS]
        told += [(word, "a", "b"), (word, 5, "a"), (word, "a", "b", 5), (word, "a"), (word,)]
    for name in WRONG_NAMES:
        told += [("part", name, "b", 5), ("part", "b", name, 5), ("join", name, "b"), ("join", "b", name)]
    told += [("part", "a", "b", amount) for amount in WRONG_AMOUNTS]
    told += [("part", "a", "a", 5), ("join", "a", "a"), ("part", "a", "b"), ("join", "a", "b", 5), ("join", "a", 5),
             ("run", (1, 1)), ("run", ((1, 1), (1, 2))), ("run", (10000, 1), (1, 2)), ("run", (1, 10000), (1, 2)),
             ("run", (-1, 1), (1, 2)), ("run", (1, True), (1, 2)), ("run", (1, 1), (2, 1)), ("run", (1, 1), (1, 4)),
             ("run", (1, 1), (-1, 1)), ("run", (1, 1), (0, True)), ("run", (1, 1), (1, 2), 5), ("run", "a", 5),
             ("run", (1, 2), None), ("run", None, (1, 2)), (None, "a", 5), (("fill",), "a", 5), (["fill"], "a", 5),
             ({}, "a", 5), (b"fill", "a", 5), (0, "a", 5), ("Fill", "a", 5), ("", "a", 5), ("full", "a", 5)]
    return told


class Deeds(unittest.TestCase):
    def test_right_ones(self):
        for right in RIGHT_DEEDS:
            self.assertEqual(told_and_unchanged(self, is_deed, RULES, right), ("told", True), right)
            self.assertIs(is_deed(RULES, right), True)

    def test_wrong_ones(self):
        for wrong in wrong_deeds():
            told = told_and_unchanged(self, is_deed, RULES, wrong)
            self.assertEqual(told, ("told", False), wrong)
            self.assertIs(told[1], False)

    def test_how_many_letters(self):
        for many in range(9):
            self.assertIs(is_deed(RULES, ("fill", "a" * many, 1)), 1 <= many <= 6)
            self.assertIs(is_deed(RULES, ("join", "a" * many, "b")), 1 <= many <= 6)

    def test_every_sign(self):
        for number in list(range(1, 300)) + [0xFF41, 0x430]:
            self.assertIs(is_deed(RULES, ("fill", "a" + chr(number), 1)), chr(number) in "abcdefghijklmnopqrstuvwxyz")

    def test_the_cut_is_by_the_second_still(self):
        self.assertIs(is_deed(RULES, ("run", (1, 1), (1, 3))), True)
        self.assertIs(is_deed((RULES[1], RULES[0]) + RULES[2:], ("run", (1, 1), (1, 3))), False)
        self.assertIs(is_deed(EASY, ("run", (1, 1), (1, 3))), False)

    def test_refusals(self):
        for call in (is_deed, is_ledger):
            check_refusals(self, call, (RULES, ()), ((NoRules, NO_RULES),))


def wrong_ledgers():
    entry, run = (5, ("fill", "a", 5)), (5, ("run", (1, 1), (1, 2)))
    told = [thing for thing in things() if thing != ()]
    told += list(misspelt((entry, run))) + [list_of((entry, run)), entry, run, [entry], (entry,) * 17, {0: entry}]
    told += [((day, entry[1]),) for day in NO_DAYS] + [(entry, (day, run[1])) for day in NO_DAYS]
    told += [(run, (5, deed)) for deed in wrong_deeds()]
    told += [((5,),), ((5, entry[1], 5),), ((entry[1], 5),), ([5, entry[1]],), ((5, list(entry[1])),)]
    told += [(entry, ()), ((),)]
    return told


class Ledgers(unittest.TestCase):
    def test_right_ones(self):
        deeds = tuple((9999 - at, deed) for at, deed in enumerate(RIGHT_DEEDS))
        for right in ((), deeds, deeds[::-1], deeds[:1] * 16, ((0, RIGHT_DEEDS[0]),), ((9999, RIGHT_DEEDS[3]),)):
            self.assertEqual(told_and_unchanged(self, is_ledger, RULES, right), ("told", True))
            self.assertIs(is_ledger(RULES, right), True)

    def test_wrong_ones(self):
        for wrong in wrong_ledgers():
            told = told_and_unchanged(self, is_ledger, RULES, wrong)
            self.assertEqual(told, ("told", False), wrong)
            self.assertIs(told[1], False)

    def test_how_many_entries(self):
        for many in range(19):
            self.assertIs(is_ledger(RULES, ((5, ("fill", "a", 5)),) * many), many <= 16)


class FailsAt(unittest.TestCase):
    def check(self, rules, *entries):
        told = fails(rules, entries)
        self.assertEqual(told, ledgers_by_hand.fails(rules, entries), entries)
        return told

    def test_the_empty_one_and_one_that_stands(self):
        self.assertIsNone(self.check(EASY))
        deeds = (ALL_HEART, ("fill", "a", 98), ("draw", "a", 98), ALL_HEART)
        self.assertIsNone(self.check(EASY, *enumerate(deeds)))

    def test_full(self):
        for wash, told in (((500, 500), None), ((501, 500), (0, 7, "full")), ((0, 1001), (0, 7, "full"))):
            self.assertEqual(self.check(EASY, (7, ("run", wash, (0, 2)))), told)
        # 500 are kept: 500 more are just CAP.
        kept = (1, ("run", (500, 500), (0, 1)))
        self.assertIsNone(self.check(EASY, kept, (2, ("run", (250, 250), (0, 2)))))
        self.assertEqual(self.check(EASY, kept, (2, ("run", (250, 251), (0, 2)))), (1, 2, "full"))

    def test_full_is_of_the_charge_not_of_the_wash(self):
        thin = (((((1, 1),), 5)),) + EASY[1:]
        self.assertIsNone(self.check(thin, (1, ("run", (9999, 9999), (0, 2)))))
        told = self.check(thin, (1, ("run", (9999, 9999), (0, 0))), (1, ("run", (2, 2), (0, 2))))
        self.assertEqual(told, (1, 1, "full"))

    def test_nothing(self):
        run, fill = (1, ALL_HEART), (2, ("fill", "a", 50))
        for deed in (("part", "b", "c", 5), ("join", "b", "a"), ("join", "a", "b"), ("join", "b", "c"),
                     ("draw", "b", 5)):
            self.assertEqual(self.check(EASY, run, fill, (3, deed)), (2, 3, "nothing"))
            self.assertEqual(self.check(EASY, (3, deed)), (0, 3, "nothing"))

    def test_twice(self):
        run, fill, other = (1, ALL_HEART), (2, ("fill", "a", 50)), (2, ("fill", "b", 20))
        for deed in (("fill", "a", 5), ("part", "b", "a", 5), ("fill", "b", 5), ("part", "a", "b", 5)):
            self.assertEqual(self.check(EASY, run, fill, other, (3, deed)), (3, 3, "twice"))

    def test_an_empty_cask_is_there_still(self):
        run, fill, other = (1, ALL_HEART), (2, ("fill", "a", 50)), (2, ("fill", "b", 20))
        for empties in (("join", "a", "b"), ("draw", "a", 50), ("part", "a", "c", 50)):
            ahead = (run, fill, other, (3, empties))
            for deed in (("fill", "a", 5), ("part", "b", "a", 5)):
                self.assertEqual(self.check(EASY, *ahead, (4, deed)), (4, 4, "twice"))
            for deed in (("draw", "a", 1), ("part", "a", "d", 1)):
                self.assertEqual(self.check(EASY, *ahead, (4, deed)), (4, 4, "less"))
            for deed in (("join", "a", "b"), ("join", "b", "a")):
                self.assertIsNone(self.check(EASY, *ahead, (4, deed)))

    def test_less(self):
        run, fill = (1, ALL_HEART), (2, ("fill", "a", 50))
        # Of 100 measures 98 and a sample of 2 can go, 99 can't.
        self.assertIsNone(self.check(EASY, run, (2, ("fill", "a", 98))))
        self.assertEqual(self.check(EASY, run, (2, ("fill", "a", 99))), (1, 2, "less"))
        self.assertIsNone(self.check(EASY, run, fill, (2, ("fill", "b", 46))))
        self.assertEqual(self.check(EASY, run, fill, (2, ("fill", "b", 47))), (2, 2, "less"))
        for deed, more in ((("draw", "a", 50), ("draw", "a", 51)), (("part", "a", "b", 50), ("part", "a", "b", 51))):
            self.assertIsNone(self.check(EASY, run, fill, (3, deed)))
            self.assertEqual(self.check(EASY, run, fill, (3, more)), (2, 3, "less"))
        self.assertEqual(self.check(EASY, (2, ("fill", "a", 1))), (0, 2, "less"))

    def test_less_without_a_sample(self):
        rules = EASY[:3] + (0,) + EASY[4:]
        self.assertIsNone(self.check(rules, (1, ALL_HEART), (2, ("fill", "a", 100))))
        self.assertEqual(self.check(rules, (1, ALL_HEART), (2, ("fill", "a", 101))), (1, 2, "less"))

    def test_two_words_due_at_once(self):
        run, fill, other = (1, ALL_HEART), (2, ("fill", "a", 50)), (2, ("fill", "b", 20))
        for deed, word in ((("part", "c", "a", 5), "nothing"), (("part", "c", "a", 9999), "nothing"),
                           (("part", "a", "b", 51), "twice"), (("fill", "a", 9999), "twice"),
                           (("part", "c", "d", 9999), "nothing"), (("draw", "c", 9999), "nothing")):
            self.assertEqual(self.check(EASY, run, fill, other, (3, deed)), (3, 3, word))

    def test_a_beginning_that_cannot_be_done_though_the_whole_could(self):
        self.assertEqual(self.check(EASY, (5, ("fill", "a", 5)), (3, ALL_HEART)), (0, 5, "less"))
        self.assertIsNone(self.check(EASY, (3, ALL_HEART), (5, ("fill", "a", 5))))
        told = self.check(EASY, (3, ALL_HEART), (5, ("draw", "a", 5)), (4, ("fill", "a", 5)))
        self.assertEqual(told, (1, 5, "nothing"))

    def test_a_late_entry_makes_a_later_deed_fail(self):
        ahead = ((1, ALL_HEART), (5, ("fill", "a", 50)), (8, ("draw", "a", 40)))
        self.assertIsNone(self.check(EASY, *ahead, (9, ("draw", "a", 10))))
        self.assertEqual(self.check(EASY, *ahead, (9, ("draw", "a", 11))), (3, 9, "less"))
        self.assertEqual(self.check(EASY, *ahead, (6, ("draw", "a", 11))), (3, 8, "less"))
        self.assertEqual(self.check(EASY, *ahead, (2, ("fill", "a", 11))), (3, 5, "twice"))
        self.assertEqual(self.check(EASY, *ahead, (4, ("draw", "a", 1))), (3, 4, "nothing"))
        self.assertEqual(self.check(EASY, *ahead, (0, ("run", (600, 400), (0, 0)))), (3, 1, "full"))
        # The late entry stands, the one behind it doesn't.
        self.assertEqual(self.check(EASY, *ahead, (6, ("draw", "a", 10)), (7, ("draw", "a", 1))), (4, 8, "less"))

    def test_of_the_wrong_deeds_the_first_that_is_done(self):
        told = self.check(EASY, (5, ("draw", "a", 1)), (3, ("fill", "a", 1)), (4, ("join", "a", "b")))
        self.assertEqual(told, (0, 5, "nothing"))
        ahead = ((1, ALL_HEART), (2, ("fill", "a", 50)), (7, ("draw", "a", 30)), (8, ("draw", "a", 20)))
        self.assertEqual(self.check(EASY, *ahead, (3, ("draw", "a", 50))), (4, 7, "less"))
        self.assertEqual(self.check(EASY, *ahead, (3, ("draw", "a", 20))), (4, 8, "less"))

    def test_those_of_one_day_as_they_were_entered(self):
        run, fill, draw = (5, ALL_HEART), (5, ("fill", "a", 50)), (5, ("draw", "a", 50))
        self.assertIsNone(self.check(EASY, run, fill, draw))
        self.assertEqual(self.check(EASY, fill, run, draw), (0, 5, "less"))
        self.assertEqual(self.check(EASY, run, draw, fill), (1, 5, "nothing"))

    def test_sixteen_entries(self):
        runs = tuple((9999 - at, ("run", (30, 30), (0, 1))) for at in range(15))
        self.assertIsNone(self.check(EASY, *runs, (9999, ("fill", "a", 500))))
        self.assertEqual(self.check(EASY, *runs, (0, ("fill", "a", 500))), (15, 0, "less"))

    def test_of_dice(self):
        dice = random.Random(42)
        seen = {}
        for _ in range(120):
            rules = ledgers_by_hand.dice_rules(dice)
            ledger = ledgers_by_hand.dice_ledger(dice, rules, dice.randrange(7))
            ledger += tuple((dice.randrange(9), ledgers_by_hand.dice_deed(dice, rules)) for _ in range(3))
            told = self.check(rules, *ledger)
            self.assertTrue(told is None or type(told) is tuple and len(told) == 3)
            seen[told and told[2]] = True
        self.assertEqual(set(seen), {None, "full", "nothing", "twice", "less"})

    def test_refusals(self):
        check_refusals(self, fails, (RULES, ()), ((NoRules, NO_RULES), (NoLedger, wrong_ledgers())))


HOUSE = (
    (3, ALL_HEART), (5, ("fill", "oak", 50)), (4, ("run", (20, 80), (0, 1))), (7, ("part", "oak", "elm", 20)),
    (7, ("join", "elm", "oak")), (9, ("draw", "oak", 10)),
)
FAILING = [
    (HOUSE + ((6, ("fill", "oak", 5)),), (6, 6, "twice")), (HOUSE + ((0, ("run", (9999, 0), (0, 0))),), (6, 0, "full")),
    (((5, ("fill", "a", 5)), (3, ALL_HEART)), (0, 5, "less")), (((5, ("draw", "a", 5)),), (0, 5, "nothing")),
]


def check_fails(case, call, *rest):
    """Each LEDGER that doesn't stand is refused with Fails and its fields, whatever stands behind it."""
    for ledger, told in FAILING:
        with case.assertRaises(Fails) as caught:
            call(EASY, ledger, *rest)
        case.assertEqual((caught.exception.entry, caught.exception.day, caught.exception.word), told)


class Standing(unittest.TestCase):
    def check(self, rules, ledger, day):
        told = standing(rules, ledger, day)
        self.assertEqual(told, ledgers_by_hand.standing(rules, ledger, day))
        self.assertEqual((type(told), len(told)), (tuple, 4))
        kept, receiver, casks, out = told
        self.assertEqual((type(casks), type(out), len(out)), (tuple, tuple, 4))
        names = [name for name, there in casks]
        self.assertEqual(names, sorted(set(names)))
        parts = [kept, receiver] + [there for name, there in casks] + list(out)
        self.assertTrue(all(is_liquor(one) for one in parts))
        washes = [liquor(*deed[1]) for on, deed in ledger if on <= day and deed[0] == "run"]
        self.assertEqual(makers.total(parts), makers.total(washes))
        return told

    def test_example(self):
        none = (NOTHING,) * 4
        self.assertEqual(self.check(EASY, HOUSE, 2), (NOTHING, NOTHING, (), none))
        self.assertEqual(self.check(EASY, HOUSE, 3), (NOTHING, liquor(60, 40), (), none))
        # Of 20 and 80 half is heart, half is kept.
        self.assertEqual(self.check(EASY, HOUSE, 4), (liquor(10, 40), liquor(70, 80), (), none))
        # Of 70 and 80 a third goes into the cask, 2 of 150 to the duty's house.
        filled = ((70, 3), (80, 3))
        sample = ((14, 15), (16, 15))
        left = ((686, 15), (784, 15))
        out = none[:2] + (sample, NOTHING)
        self.assertEqual(self.check(EASY, HOUSE, 5), (liquor(10, 40), left, (("oak", filled),), out))
        joined = (("elm", NOTHING), ("oak", filled))
        self.assertEqual(self.check(EASY, HOUSE, 8), (liquor(10, 40), left, joined, out))
        drawn = ((14, 3), (16, 3))
        casks = (("elm", NOTHING), ("oak", ((56, 3), (64, 3))))
        self.assertEqual(self.check(EASY, HOUSE, 9999), (liquor(10, 40), left, casks, none[:2] + (sample, drawn)))

    def test_pot_and_lost_are_of_both_runs(self):
        rules = ((((5, 5),), 1), (((8, 8),), 5)) + EASY[2:]
        told = self.check(rules, ((3, ("run", (100, 100), (0, 1))),), 3)
        self.assertEqual(told, (NOTHING, liquor(18, 18), (), (liquor(59, 59), liquor(23, 23), NOTHING, NOTHING)))

    def test_days_ahead_between_and_last(self):
        for day in (0, 1, 2, 3, 4, 5, 6, 7, 8, 9, 10, 9998, 9999):
            self.check(EASY, HOUSE, day)
            self.check(EASY, (), day)

    def test_casks_are_rising_and_empty_ones_too(self):
        names = ("b", "aa", "zz", "a", "az", "ba")
        ledger = ((1, ("run", (300, 300), (0, 2))),) + tuple((2, ("fill", name, 10)) for name in names)
        told = self.check(EASY, ledger + ((3, ("draw", "zz", 10)), (3, ("join", "aa", "b"))), 3)
        self.assertEqual([name for name, there in told[2]], ["a", "aa", "az", "b", "ba", "zz"])
        self.assertEqual([there for name, there in told[2] if name in ("aa", "zz")], [NOTHING, NOTHING])

    def test_what_goes_out_is_as_strong(self):
        ahead = standing(EASY, HOUSE, 4)
        later = standing(EASY, HOUSE, 5)
        for there in (later[1], later[2][0][1], later[3][2]):
            self.assertEqual(strength(there), strength(ahead[1]))
        self.assertEqual(strength(standing(EASY, HOUSE, 9)[3][3]), strength(standing(EASY, HOUSE, 8)[2][1][1]))

    def test_all_of_a_receiver_or_cask_goes_out(self):
        for rules, amount in ((EASY, 98), (EASY[:3] + (0,) + EASY[4:], 100)):
            deeds = (ALL_HEART, ("fill", "a", amount), ("part", "a", "b", amount), ("draw", "b", amount))
            ledger = tuple(enumerate(deeds))
            for day in range(6):
                self.check(rules, ledger, day)
            self.assertEqual(standing(rules, ledger, 9)[:3], (NOTHING, NOTHING, (("a", NOTHING), ("b", NOTHING))))

    def test_out_is_of_all_so_far(self):
        rules = ((((9, 8),), 1), (((5, 2), (3, 5)), 1)) + EASY[2:]
        ledger = (
            (1, ("run", (300, 100), (0, 1))), (2, ("fill", "a", 20)), (3, ("draw", "a", 7)), (4, ("draw", "a", 5)),
            (4, ("run", (50, 200), (0, 2))), (5, ("fill", "b", 30)), (6, ("draw", "b", 1)), (6, ("draw", "a", 8)),
        )
        amounts = []
        for day in range(8):
            out = self.check(rules, ledger, day)[3]
            amounts.append([measures(one) for one in out[2:]])
        self.assertEqual(amounts[1:], [[whole(samples), whole(drawn)] for samples, drawn in (
            (0, 0), (2, 0), (2, 7), (2, 12), (4, 12), (4, 21), (4, 21),
        )])

    def test_a_late_entry_changes_nothing_ahead_of_its_day(self):
        late = HOUSE + ((6, ("run", (100, 0), (0, 1))),)
        for day in range(12):
            self.assertEqual(standing(EASY, late, day) == standing(EASY, HOUSE, day), day < 6)

    def test_of_dice(self):
        dice = random.Random(43)
        for _ in range(40):
            rules = ledgers_by_hand.dice_rules(dice)
            ledger = ledgers_by_hand.dice_ledger(dice, rules, dice.choice((1, 4, 8, 12, 16)))
            for day in (0, 3, 7, 499, 9999):
                self.check(rules, ledger, day)

    def test_refusals(self):
        right = (EASY, HOUSE, 7)
        check_refusals(self, standing, right, ((NoRules, NO_RULES), (NoLedger, wrong_ledgers()), (NoDay, NO_DAYS)))
        check_refusals(self, standing, right, ((NoRules, []), (Fails, [ledger for ledger, told in FAILING])))

    def test_fields_of_fails(self):
        check_fails(self, standing, 0)
        check_fails(self, standing, None)
        for ledger, told in FAILING:
            self.assertEqual(fails(EASY, ledger), told)

    def test_days_that_may_be_asked(self):
        for day in (0, 9999):
            self.assertEqual(outcome(standing, EASY, HOUSE, day)[0], "told")
