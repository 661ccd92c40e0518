import random
import unittest

from tests import ledgers_by_hand, makers
from tests.test_duties import NO_RULES
from tests.test_ledgers import ALL_HEART, EASY, FAILING, HOUSE, NO_DAYS, WRONG_NAMES, check_fails, wrong_ledgers
from tests.things import check_refusals, outcome, things
from twicerun.casks import made_of
from twicerun.errors import Fails, NoDay, NoLedger, NoName, NoRules
from twicerun.ledgers import standing
from twicerun.liquors import is_liquor

NO_CASKS = things() + WRONG_NAMES + ["b", "elms", "oa", "OAK", "oak "]


class Casks(unittest.TestCase):
    def check(self, rules, ledger, day, cask):
        told = made_of(rules, ledger, day, cask)
        self.assertIs(type(told), tuple)
        self.assertTrue(all(type(one) is tuple and len(one) == 2 and type(one[0]) is int for one in told))
        self.assertTrue(all(is_liquor(one[1]) and one[1] != makers.NOTHING for one in told))
        numbers = [one[0] for one in told]
        self.assertEqual(numbers, sorted(set(numbers)))
        self.assertTrue(all(ledger[number][1][0] == "run" and ledger[number][0] <= day for number in numbers))
        there = dict(standing(rules, ledger, day)[2])[cask]
        self.assertEqual(makers.total([one[1] for one in told]), there)
        state = ledgers_by_hand.done(rules, ledger, day)[0]
        self.assertEqual(told, ledgers_by_hand.parts_of(state["casks"][cask]))
        return told

    def test_example(self):
        # A third of 60 and 40 of entry 0, and of the 10 and 40 that are heart of entry 2.
        filled = ((0, ((20, 1), (40, 3))), (2, ((10, 3), (40, 3))))
        self.assertEqual(self.check(EASY, HOUSE, 5, "oak"), filled)
        parted = tuple((number, tuple((top * 2, bottom * 5) for top, bottom in there)) for number, there in filled)
        told = self.check(EASY, HOUSE[:4], 7, "elm")
        self.assertEqual(told, tuple((number, tuple(map(makers.as_pair, map(makers.as_fraction, there))))
                                     for number, there in parted))
        self.assertEqual(self.check(EASY, HOUSE, 7, "elm"), ())
        self.assertEqual(self.check(EASY, HOUSE, 7, "oak"), filled)
        self.assertEqual(self.check(EASY, HOUSE, 9, "oak"), ((0, ((16, 1), (32, 3))), (2, ((8, 3), (32, 3)))))

    def test_by_way_of_what_was_kept(self):
        ledger = ((1, ("run", (80, 0), (0, 0))), (2, ("run", (0, 40), (0, 1))), (3, ("run", (0, 0), (0, 2))),
                  (9, ("fill", "a", 118)))
        # All of the first is kept, of it and of the second half is heart and half is kept, then all is heart.
        self.assertEqual(self.check(EASY, ledger, 9, "a"), ((0, ((236, 3), (0, 1))), (1, ((0, 1), (118, 3)))))
        self.assertEqual(self.check(EASY, ledger[:2] + ((2, ("fill", "a", 58)),), 2, "a"),
                         ((0, ((116, 3), (0, 1))), (1, ((0, 1), (58, 3)))))

    def test_by_entries_not_by_the_order_of_days(self):
        ledger = ((5, ("run", (10, 10), (0, 2))), (1, ALL_HEART), (7, ("fill", "a", 118)), (3, ("run", (0, 0), (0, 2))))
        self.assertEqual(self.check(EASY, ledger, 7, "a"), ((0, ((59, 6), (59, 6))), (1, ((59, 1), (118, 3)))))

    def test_joined_of_several(self):
        ledger = ((1, ALL_HEART), (1, ("fill", "a", 98)), (2, ("run", (5, 20), (0, 2))), (2, ("fill", "b", 23)),
                  (3, ("join", "a", "b")), (4, ("part", "b", "c", 11)), (5, ("draw", "b", 110)))
        self.assertEqual([one[0] for one in self.check(EASY, ledger, 3, "b")], [0, 2])
        self.assertEqual(self.check(EASY, ledger, 3, "a"), ())
        self.assertEqual([one[0] for one in self.check(EASY, ledger, 4, "c")], [0, 2])
        self.assertEqual(self.check(EASY, ledger, 5, "b"), ())
        self.assertEqual([one[0] for one in self.check(EASY, ledger, 2, "b")], [2])

    def test_of_dice(self):
        dice = random.Random(44)
        for _ in range(25):
            rules = ledgers_by_hand.dice_rules(dice)
            ledger = ledgers_by_hand.dice_ledger(dice, rules, dice.choice((4, 8, 12, 16)))
            for day in (3, 9999):
                there = [name for name, one in standing(rules, ledger, day)[2]]
                for name in ledgers_by_hand.NAMES:
                    if name in there:
                        self.check(rules, ledger, day, name)
                    else:
                        self.assertEqual(outcome(made_of, rules, ledger, day, name), ("refused", NoName))

    def test_a_cask_that_is_not_there_yet(self):
        self.assertEqual(outcome(made_of, EASY, HOUSE, 4, "oak"), ("refused", NoName))
        self.assertEqual(outcome(made_of, EASY, HOUSE, 6, "elm"), ("refused", NoName))
        self.assertEqual(outcome(made_of, EASY, (), 9999, "oak"), ("refused", NoName))

    def test_refusals(self):
        right = (EASY, HOUSE, 9, "oak")
        check_refusals(self, made_of, right, (
            (NoRules, NO_RULES), (NoLedger, wrong_ledgers()), (NoDay, NO_DAYS), (NoName, NO_CASKS),
        ))
        check_refusals(self, made_of, right, ((NoRules, []), (Fails, [ledger for ledger, told in FAILING])))

    def test_fields_of_fails(self):
        check_fails(self, made_of, None, None)
