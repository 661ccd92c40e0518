import itertools
import random
import unittest
from unittest import mock

from tests import ledgers_by_hand, makers
from tests.test_duties import NO_RULES
from tests.test_ledgers import ALL_HEART, EASY, FAILING, HOUSE, check_fails, wrong_ledgers
from tests.test_walks import NO_LIQUORS
from tests.things import check_refusals, liquor, list_of, misspelt, outcome, things, told_and_unchanged
from twicerun.clashes import clash
from twicerun.errors import Fails, NoLedger, NoRules, NoTellings

NOTHING = makers.NOTHING
WORDS = ("charge", "heart", "kept")
RIGHT = (
    (0, "charge", liquor(60, 40)), (0, "heart", liquor(60, 40)), (0, "kept", NOTHING),
    (1, "charge", liquor(20, 80)), (1, "heart", liquor(10, 40)), (1, "kept", liquor(10, 40)),
)
OTHER = liquor(3, 4)
NO_TELLINGS = [thing for thing in things() if thing != ()] + [
    RIGHT + (None,), RIGHT[:1] * 21, RIGHT[0], list(RIGHT), list_of(RIGHT), {0: RIGHT[0]}, (RIGHT,), (RIGHT[0][:2],),
    (RIGHT[0] + (1,),), ((0, "charge", None),), ((), ()), ((),), (RIGHT[0], ()), ((-1, "heart", OTHER),),
    ((-(10 ** 99), "heart", OTHER),), ((True, "heart", OTHER),), ((False, "heart", OTHER),), ((None, "heart", OTHER),),
    (("0", "heart", OTHER),), (((0, 1), "heart", OTHER),), (("heart", 0, OTHER),), ((0, OTHER, "heart"),),
] + [(RIGHT[0], (0, word, OTHER)) for word in (
    "", "pot", "lost", "heads", "tails", "Heart", "hearts", "c", "charge ", " kept", b"kept", None, 0, ("kept",), ["kept"],
    {}, set(), WORDS, mock.ANY,
)] + [((0, "kept", wrong),) for wrong in NO_LIQUORS] + list(misspelt(RIGHT[:2])) + [
    RIGHT[:2] + (wrong,) for wrong in misspelt(RIGHT[4])
]


def first_wrong(runs, tellings):
    """What clash must tell, of the runs reckoned by hand."""
    wrong = []
    for place, (number, word, told) in enumerate(tellings):
        found = runs[number][WORDS.index(word)] if number < len(runs) else None
        if found != told:
            wrong.append((number, WORDS.index(word), place, (number, word, told, found)))
    return min(wrong)[3] if wrong else None


class Clashes(unittest.TestCase):
    def check(self, rules, ledger, *tellings):
        told = told_and_unchanged(self, clash, rules, ledger, tellings)
        self.assertEqual(told, ("told", first_wrong(ledgers_by_hand.runs(rules, ledger), tellings)))
        self.assertTrue(told[1] is None or type(told[1]) is tuple and len(told[1]) == 4)
        return told[1]

    def test_all_are_so(self):
        self.assertIsNone(self.check(EASY, HOUSE))
        self.assertIsNone(self.check(EASY, ()))
        self.assertIsNone(self.check(EASY, HOUSE, *RIGHT))
        self.assertIsNone(self.check(EASY, HOUSE, *RIGHT[::-1]))
        for telling in RIGHT:
            self.assertIsNone(self.check(EASY, HOUSE, telling))

    def test_each_word_wrong(self):
        for number, word, found in RIGHT:
            for other in (OTHER, (found[0], (found[1][0] + 1, 1)), ((found[0][0] + 1, 1), found[1]), found[::-1]):
                if other != found:
                    self.assertEqual(self.check(EASY, HOUSE, (number, word, other)), (number, word, other, found))

    def test_twenty_and_twenty_one(self):
        twenty = RIGHT * 3 + RIGHT[:2]
        self.assertIsNone(self.check(EASY, HOUSE, *twenty))
        wrong = twenty[:19] + ((1, "kept", OTHER),)
        self.assertEqual(self.check(EASY, HOUSE, *wrong), (1, "kept", OTHER, liquor(10, 40)))
        self.assertEqual(outcome(clash, EASY, HOUSE, twenty + RIGHT[:1]), ("refused", NoTellings))

    def test_of_several_wrong_ones(self):
        wrong = tuple((number, word, OTHER) for number, word, found in RIGHT)
        for tellings in (wrong, wrong[::-1], wrong[3:] + wrong[:3]):
            self.assertEqual(self.check(EASY, HOUSE, *tellings), wrong[0] + (RIGHT[0][2],))
        # Of each two, in both turns, the one that stands ahead in RIGHT.
        for (one, first), (other, second) in itertools.combinations(zip(wrong, RIGHT), 2):
            self.assertEqual(self.check(EASY, HOUSE, one, other), one + (first[2],))
            self.assertEqual(self.check(EASY, HOUSE, other, one), one + (first[2],))
            self.assertEqual(self.check(EASY, HOUSE, other, first), other + (second[2],))

    def test_of_those_alike_the_one_ahead(self):
        one, other = (1, "heart", OTHER), (1, "heart", NOTHING)
        self.assertEqual(self.check(EASY, HOUSE, one, other), one + (liquor(10, 40),))
        self.assertEqual(self.check(EASY, HOUSE, other, one), other + (liquor(10, 40),))
        self.assertEqual(self.check(EASY, HOUSE, RIGHT[4], other, one), other + (liquor(10, 40),))
        self.assertEqual(self.check(EASY, HOUSE, one, one), one + (liquor(10, 40),))

    def test_no_such_run(self):
        for number in (2, 3, 16, 10 ** 100 - 1):
            for word in WORDS:
                for told in (OTHER, NOTHING):
                    self.assertEqual(self.check(EASY, HOUSE, (number, word, told)), (number, word, told, None))
        self.assertEqual(self.check(EASY, (), (0, "kept", NOTHING)), (0, "kept", NOTHING, None))
        many = tuple((number, "charge", OTHER) for number in (10 ** 99, 7, 2, 5))
        self.assertEqual(self.check(EASY, HOUSE, *many), (2, "charge", OTHER, None))
        self.assertEqual(self.check(EASY, HOUSE, *many, (1, "kept", OTHER)), (1, "kept", OTHER, liquor(10, 40)))

    def test_runs_are_numbered_as_they_are_done(self):
        ledger = ((9, ("run", (1, 1), (0, 0))), (4, ("run", (2, 2), (0, 0))), (4, ("run", (4, 4), (0, 2))),
                  (0, ("run", (8, 8), (0, 0))))
        charges = (8, 10, 14, 1)
        for number, charge in enumerate(charges):
            self.assertIsNone(self.check(EASY, ledger, (number, "charge", liquor(charge, charge))))
        self.assertIsNone(self.check(EASY, ledger, (2, "heart", liquor(14, 14)), (2, "kept", NOTHING)))

    def test_numbers_are_of_runs_not_of_entries(self):
        ledger = ((1, ALL_HEART), (2, ("fill", "a", 50)), (3, ("draw", "a", 5)), (4, ("run", (20, 80), (0, 1))))
        self.assertIsNone(self.check(EASY, ledger, *RIGHT))
        self.assertEqual(self.check(EASY, ledger, (3, "kept", liquor(10, 40))), (3, "kept", liquor(10, 40), None))

    def test_the_heart_is_of_this_run_alone(self):
        ledger = ((1, ALL_HEART), (2, ALL_HEART))
        self.assertIsNone(self.check(EASY, ledger, (1, "heart", liquor(60, 40))))
        self.assertEqual(self.check(EASY, ledger, (1, "heart", liquor(120, 80)))[3], liquor(60, 40))

    def test_kept_is_behind_the_run_and_the_charge_has_what_was_kept(self):
        ledger = ((1, ("run", (8, 16), (0, 1))), (2, ("run", (8, 0), (0, 1))))
        self.assertIsNone(self.check(EASY, ledger, (0, "kept", liquor(4, 8)), (1, "charge", liquor(12, 8)),
                                     (1, "kept", liquor(6, 4))))

    def test_of_dice(self):
        dice = random.Random(50)
        seen = {}
        for _ in range(60):
            rules = ledgers_by_hand.dice_rules(dice)
            ledger = ledgers_by_hand.dice_ledger(dice, rules, dice.choice((0, 2, 5, 9, 16)))
            tellings = [(number, word, told) for number, row in enumerate(ledgers_by_hand.runs(rules, ledger))
                        for word, told in zip(WORDS, row)]
            tellings = dice.sample(tellings, min(len(tellings), 17))
            self.assertIsNone(self.check(rules, ledger, *tellings))
            for _ in range(3):
                wrong = (dice.randrange(9), dice.choice(WORDS), makers.liquor(dice))
                tellings.insert(dice.randrange(len(tellings) + 1), wrong)
                told = self.check(rules, ledger, *tellings)
                seen[told and (told[1], told[3] is None)] = True
        self.assertLessEqual({(word, none) for word in WORDS for none in (True, False)}, set(seen))

    def test_refusals(self):
        right = (EASY, HOUSE, RIGHT)
        check_refusals(self, clash, right, (
            (NoRules, NO_RULES), (NoLedger, wrong_ledgers()), (NoTellings, NO_TELLINGS),
        ))
        check_refusals(self, clash, right, ((NoRules, []), (Fails, [ledger for ledger, told in FAILING])))
        check_fails(self, clash, None)
        check_fails(self, clash, RIGHT)
