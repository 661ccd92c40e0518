import random
import unittest

from tests import ledgers_by_hand
from tests.test_casks import NO_CASKS
from tests.test_duties import NO_RULES
from tests.test_ledgers import ALL_HEART, EASY, HOUSE, NO_DAYS, wrong_deeds
from tests.test_movings import NO_NUMBERS, SEVERAL, dice_ledgers
from tests.things import check_refusals, liquor, outcome, told_and_unchanged, whole
from twicerun.casks import made_of
from twicerun.errors import Fails, NoCount, NoDay, NoDeed, NoEntry, NoName, NoRules
from twicerun.houses import House
from twicerun.ledgers import fails, standing
from twicerun.movings import duties, duty_then, moved

DAYS = (0, 3, 5, 9, 9999)


def house_of(rules, ledger):
    house = House(rules)
    for day, deed in ledger:
        house.enter(day, deed)
    return house


def all_told(house):
    """All that a house tells."""
    many = len(house.ledger())
    told = [house.ledger(), house.duties()]
    for day in (4, 9999):
        told += [house.standing(day)] + [outcome(house.made_of, day, name) for name in ("a", "oak", "elm")]
        told += [house.duty_then(day, some) for some in (0, many)]
    return told + [outcome(house.moved, entry) for entry in (0, many - 1, many)]


class Houses(unittest.TestCase):
    def check(self, rules, ledger):
        """A house tells what the functions tell of the same LEDGER, at each of its entries."""
        house = House(rules)
        for number, (day, deed) in enumerate(ledger):
            now = ledger[:number + 1]
            told = told_and_unchanged(self, house.enter, day, deed)
            self.assertEqual(told, ("told", ledgers_by_hand.moved(rules, now, number)))
            self.assertEqual((type(house.ledger()), house.ledger()), (tuple, now))
        for day in DAYS:
            self.assertEqual(house.standing(day), standing(rules, ledger, day))
            for name in ledgers_by_hand.NAMES:
                self.assertEqual(outcome(house.made_of, day, name), outcome(made_of, rules, ledger, day, name))
            for many in (0, len(ledger) // 2, len(ledger)):
                self.assertEqual(house.duty_then(day, many), duty_then(rules, ledger, day, many))
        self.assertEqual(house.duties(), duties(rules, ledger))
        for entry in range(len(ledger)):
            self.assertEqual(house.moved(entry), moved(rules, ledger, entry))
        self.assertEqual(house.ledger(), ledger)
        return house

    def check_refused(self, house, kind, day, deed):
        before = all_told(house)
        self.assertEqual(told_and_unchanged(self, house.enter, day, deed), ("refused", kind), (day, deed))
        self.assertEqual(all_told(house), before)

    def test_at_first(self):
        house = self.check(EASY, ())
        self.assertEqual((house.ledger(), house.duties()), ((), ()))
        self.assertEqual(house.duty_then(0, 0), (0, 1))
        self.assertEqual(outcome(house.moved, 0), ("refused", NoEntry))
        self.assertEqual(outcome(house.made_of, 0, "a"), ("refused", NoName))

    def test_what_is_told_is_what_the_entry_moved(self):
        house = House(EASY)
        self.assertEqual(house.enter(3, ALL_HEART), ((), ()))
        self.assertEqual(house.enter(5, ("fill", "oak", 50)),
                         ((("oak", None, liquor(30, 20)),), ((5, None, whole(600)),)))
        self.assertEqual(house.enter(4, ("run", (20, 80), (0, 1))),
                         ((("oak", liquor(30, 20), ((70, 3), (80, 3))),), ((5, whole(600), (700, 3)),)))

    def test_in_turn_late_and_early(self):
        self.check(EASY, HOUSE)
        self.check(EASY, SEVERAL)
        self.check(EASY, tuple(entry for number, entry in ledgers_by_hand.in_turn(SEVERAL)))

    def test_of_dice(self):
        for rules, ledger in dice_ledgers(70, 4):
            self.check(rules, ledger)

    def test_sixteen_entries_and_one_more(self):
        ledger = ((1, ALL_HEART),) + tuple((2, ("fill", chr(97 + at), 3)) for at in range(15))
        house = house_of(EASY, ledger[:15])
        self.assertEqual(house.enter(*ledger[15]), moved(EASY, ledger, 15))
        for day, deed in ((3, ("draw", "a", 1)), (0, ALL_HEART), (3, ("draw", "z", 1)), (3, None), (None, None)):
            self.check_refused(house, NoDay, day, deed)
        self.assertEqual(house.ledger(), ledger)

    def test_no_day(self):
        house = house_of(EASY, HOUSE)
        before = all_told(house)
        for day in NO_DAYS:
            for deed in (ALL_HEART, None, ("draw", "z", 1)):
                self.assertEqual(told_and_unchanged(self, house.enter, day, deed), ("refused", NoDay))
        self.assertEqual(all_told(house), before)

    def test_no_deed(self):
        house = house_of(EASY, HOUSE)
        before = all_told(house)
        for deed in wrong_deeds():
            self.assertEqual(told_and_unchanged(self, house.enter, 7, deed), ("refused", NoDeed), deed)
        self.assertEqual(all_told(house), before)
        # The CUT is one of the second still.
        self.check_refused(house, NoDeed, 7, ("run", (1, 1), (0, 3)))

    def test_fails_by_the_ledger_that_would_be(self):
        for entry, told in (
            ((6, ("fill", "oak", 5)), (6, 6, "twice")), ((0, ("run", (9999, 0), (0, 0))), (6, 0, "full")),
            ((6, ("draw", "elm", 1)), (6, 6, "nothing")), ((6, ("draw", "oak", 45)), (6, 7, "less")),
            ((8, ("draw", "oak", 41)), (6, 9, "less")), ((9999, ("draw", "oak", 41)), (6, 9999, "less")),
        ):
            house = house_of(EASY, HOUSE)
            self.check_refused(house, Fails, *entry)
            with self.assertRaises(Fails) as caught:
                house.enter(*entry)
            self.assertEqual((caught.exception.entry, caught.exception.day, caught.exception.word), told)
            self.assertEqual(fails(EASY, HOUSE + (entry,)), told)

    def test_what_was_refused_is_not_there_later(self):
        house, other = House(EASY), House(EASY)
        for at, (day, deed) in enumerate(HOUSE):
            outcome(house.enter, day, ("draw", "z", 1))
            outcome(house.enter, None, deed)
            outcome(house.enter, day, None)
            self.assertEqual(house.enter(day, deed), other.enter(day, deed))
        self.assertEqual(all_told(house), all_told(other))

    def test_other_refusals(self):
        house = house_of(EASY, HOUSE)
        check_refusals(self, house.standing, (9,), ((NoDay, NO_DAYS),))
        check_refusals(self, house.made_of, (9, "oak"), ((NoDay, NO_DAYS), (NoName, NO_CASKS)))
        check_refusals(self, house.duty_then, (5, 6), ((NoDay, NO_DAYS), (NoCount, NO_NUMBERS + [7])))
        check_refusals(self, house.moved, (5,), ((NoEntry, NO_NUMBERS + [6, 7]),))

    def test_two_houses_beside_each_other(self):
        dice = random.Random(71)
        rules = ledgers_by_hand.dice_rules(dice)
        ledger = ledgers_by_hand.dice_ledger(dice, rules, 8)
        one, same, other = House(EASY), House(EASY), House(rules)
        for number in range(8):
            other.enter(*ledger[number])
            if number < len(HOUSE):
                one.enter(*HOUSE[number])
        self.assertEqual((one.ledger(), same.ledger(), other.ledger()), (HOUSE, (), ledger))
        self.assertEqual(all_told(one), all_told(house_of(EASY, HOUSE)))
        self.assertEqual(all_told(other), all_told(house_of(rules, ledger)))
        self.assertEqual(same.standing(9999), standing(EASY, (), 9999))

    def test_no_rules(self):
        for rules in NO_RULES:
            self.assertEqual(told_and_unchanged(self, House, rules), ("refused", NoRules))
