import random
import unittest

from tests import ledgers_by_hand, makers
from tests.test_duties import NO_RULES
from tests.test_ledgers import ALL_HEART, EASY, FAILING, HOUSE, NO_DAYS, check_fails, wrong_ledgers
from tests.things import check_refusals, liquor, outcome, things, whole
from twicerun.errors import Fails, NoCount, NoDay, NoEntry, NoLedger, NoRules
from twicerun.fractions import is_fraction
from twicerun.ledgers import fails, standing
from twicerun.liquors import is_liquor
from twicerun.movings import duties, duty_then, moved

NOTHING = makers.NOTHING
WATER = ("run", (0, 40), (0, 2))
LEDGERS_THAT_FAIL = [ledger for ledger, told in FAILING]
NO_NUMBERS = things() + [-1, 99, True, False, "0", "1", (0,), [0], (0, 1), b"1", 10 ** 99]
# Two casks on DAY 5, the second weaker by a run between; one on DAY 2, entered last.
SEVERAL = (
    (1, ALL_HEART), (5, ("fill", "a", 50)), (5, WATER), (5, ("fill", "b", 44)), (9, ("fill", "c", 10)),
    (6, ("draw", "a", 50)), (2, ("fill", "d", 8)),
)


def with_sample(sample):
    return EASY[:3] + (sample,) + EASY[4:]


def with_duty(*rows):
    return EASY[:4] + (rows,)


def dice_ledgers(seed, many):
    dice = random.Random(seed)
    for _ in range(many):
        rules = ledgers_by_hand.dice_rules(dice)
        yield rules, ledgers_by_hand.dice_ledger(dice, rules, dice.choice((1, 4, 8, 12, 16)))


class Duties(unittest.TestCase):
    def check(self, rules, ledger):
        told = duties(rules, ledger)
        self.assertEqual(told, ledgers_by_hand.duties(rules, ledger))
        self.assertIs(type(told), tuple)
        self.assertTrue(all(type(row) is tuple and type(row[0]) is int and is_fraction(row[1]) for row in told))
        days = [day for day, duty in told]
        self.assertEqual(days, sorted({on for on, deed in ledger if deed[0] == "fill"}))
        return told

    def test_none_is_filled(self):
        self.assertEqual(self.check(EASY, ()), ())
        self.assertEqual(self.check(EASY, ((1, ALL_HEART), (2, ALL_HEART))), ())

    def test_one_is_filled(self):
        # 50 of 70 and 80 measures: weaker than 50 hundredths.
        self.assertEqual(self.check(EASY, HOUSE), ((5, (700, 3)),))
        self.assertEqual(self.check(EASY, ((1, ALL_HEART), (1, ("fill", "a", 98)))), ((1, whole(1176)),))

    def test_several_on_a_day_each_by_its_own_strength(self):
        # 30 of spirit at 60 hundredths; of 48 measures left and 40 of water, 28.8 of spirit in 88.
        ledger = ((1, ALL_HEART), (5, ("fill", "a", 50)), (5, WATER), (5, ("fill", "b", 44)))
        self.assertEqual(self.check(EASY, ledger), ((5, whole(30 * 20 + 144)),))
        self.assertEqual(self.check(EASY, ledger[:2]), ((5, whole(600)),))

    def test_several_days_rising_with_a_late_entry(self):
        told = self.check(EASY, SEVERAL)
        self.assertEqual([day for day, duty in told], [2, 5, 9])
        self.assertEqual(told[0], (2, whole(96)))

    def test_a_duty_of_0_is_told_too(self):
        self.assertEqual(self.check(EASY, ((1, WATER), (2, ("fill", "a", 20)))), ((2, (0, 1)),))
        self.assertEqual(self.check(with_duty((0, 0)), HOUSE), ((5, (0, 1)),))
        self.assertEqual(self.check(with_duty((0, 999), (40, 0)), HOUSE), ((5, (0, 1)),))

    def test_the_sample_is_none_of_it(self):
        for sample in (0, 1, 9):
            self.assertEqual(self.check(with_sample(sample), HOUSE), ((5, (700, 3)),))

    def test_just_as_strong_as_a_from(self):
        ledger = ((1, ALL_HEART), (2, ("fill", "a", 50)))
        for start, told in ((59, 210), (60, 210), (61, 30)):
            self.assertEqual(self.check(with_duty((0, 1), (start, 7)), ledger), ((2, whole(told)),))

    def test_as_they_were_filled(self):
        ledger = ((1, ALL_HEART), (2, ("fill", "a", 50)), (2, ("fill", "b", 20)))
        told = self.check(EASY, ledger)
        for deed in (("draw", "a", 50), ("part", "a", "c", 7), ("join", "a", "b"), ("join", "b", "a")):
            for day in (2, 3, 9999):
                self.assertEqual(self.check(EASY, ledger + ((day, deed),)), told)

    def test_a_late_run_moves_what_is_filled_behind_it(self):
        ledger = ((1, ALL_HEART), (2, ("fill", "a", 50)), (4, ("fill", "b", 44)))
        self.assertEqual(self.check(EASY, ledger), ((2, whole(600)), (4, whole(528))))
        self.assertEqual(self.check(EASY, ledger + ((3, WATER),)), ((2, whole(600)), (4, whole(144))))
        self.assertEqual(self.check(EASY, ledger + ((4, WATER),)), ((2, whole(600)), (4, whole(528))))

    def test_late_ones_and_the_same_in_the_turn_of_their_days(self):
        ledgers = [(EASY, HOUSE), (EASY, SEVERAL)] + list(dice_ledgers(45, 25))
        for rules, ledger in ledgers:
            in_turn = tuple(entry for number, entry in ledgers_by_hand.in_turn(ledger))
            self.assertEqual(self.check(rules, ledger), self.check(rules, in_turn))

    def test_of_dice(self):
        for rules, ledger in dice_ledgers(46, 40):
            self.check(rules, ledger)

    def test_refusals(self):
        check_refusals(self, duties, (EASY, HOUSE), ((NoRules, NO_RULES), (NoLedger, wrong_ledgers())))
        check_refusals(self, duties, (EASY, HOUSE), ((NoRules, []), (Fails, LEDGERS_THAT_FAIL)))
        check_fails(self, duties)


class DutyThen(unittest.TestCase):
    def check(self, rules, ledger, day, many):
        told = duty_then(rules, ledger, day, many)
        self.assertIs(is_fraction(told), True)
        self.assertEqual(told, dict(ledgers_by_hand.duties(rules, ledger[:many])).get(day, (0, 1)))
        return told

    def test_none_some_and_all_entries(self):
        told = [self.check(EASY, SEVERAL, 5, many) for many in range(8)]
        self.assertEqual(told[:5], [(0, 1), (0, 1), whole(600), whole(600), whole(744)])
        self.assertEqual(told[5:7], [whole(744)] * 2)
        # The cask filled on DAY 2 leaves less for the last one, which is the weaker for it.
        self.assertNotEqual(told[7], told[6])
        self.assertEqual(told[7], dict(duties(EASY, SEVERAL))[5])

    def test_a_day_on_which_none_is_filled(self):
        for day in (0, 1, 3, 4, 6, 8, 10, 9999):
            for many in range(8):
                self.assertEqual(self.check(EASY, SEVERAL, day, many), (0, 1))
        self.assertEqual(self.check(EASY, (), 5, 0), (0, 1))

    def test_the_first_and_the_last_day(self):
        ledger = ((0, ALL_HEART), (0, ("fill", "a", 10)), (9999, ("fill", "b", 20)))
        self.assertEqual([self.check(EASY, ledger, 0, many) for many in range(4)], [(0, 1)] * 2 + [whole(120)] * 2)
        self.assertEqual([self.check(EASY, ledger, 9999, many) for many in range(4)], [(0, 1)] * 3 + [whole(240)])

    def test_by_the_numbers_of_entries_not_by_days(self):
        ledger = ((9, ALL_HEART), (9, ("fill", "a", 10)), (1, ALL_HEART), (2, ("fill", "b", 10)))
        self.assertEqual([self.check(EASY, ledger, 2, many) for many in range(5)], [(0, 1)] * 4 + [whole(120)])

    def test_of_dice(self):
        for rules, ledger in dice_ledgers(47, 15):
            for day in (0, 3, 7, 8, 500, 9999):
                for many in (0, len(ledger) // 2, len(ledger) - 1, len(ledger)):
                    self.check(rules, ledger, day, many)

    def test_refusals(self):
        right = (EASY, HOUSE, 5, 6)
        check_refusals(self, duty_then, right, (
            (NoRules, NO_RULES), (NoLedger, wrong_ledgers()), (NoDay, NO_DAYS), (NoCount, NO_NUMBERS + [7]),
        ))
        check_refusals(self, duty_then, right, ((NoRules, []), (Fails, LEDGERS_THAT_FAIL)))
        check_fails(self, duty_then, None, None)
        self.assertEqual(outcome(duty_then, EASY, (), 5, 1), ("refused", NoCount))


class Moved(unittest.TestCase):
    def check(self, rules, ledger, entry):
        told = moved(rules, ledger, entry)
        self.assertEqual(told, ledgers_by_hand.moved(rules, ledger, entry))
        self.assertEqual((type(told), len(told)), (tuple, 2))
        for rows, is_told in zip(told, (is_liquor, is_fraction)):
            self.assertIs(type(rows), tuple)
            keys = [row[0] for row in rows]
            self.assertEqual(keys, sorted(set(keys)))
            for row in rows:
                self.assertEqual((type(row), len(row)), (tuple, 3))
                self.assertTrue(row[1] is None or is_told(row[1]))
                self.assertTrue(is_told(row[2]) and row[1] != row[2])
        self.assertTrue(all(row[0] >= ledger[entry][0] for row in told[1]))
        return told

    def test_example(self):
        filled = ((70, 3), (80, 3))
        self.assertEqual(self.check(EASY, HOUSE, 0), ((), ()))
        # Not yet with the run of entry 2: 50 of 60 and 40.
        self.assertEqual(self.check(EASY, HOUSE, 1), ((("oak", None, liquor(30, 20)),), ((5, None, whole(600)),)))
        self.assertEqual(self.check(EASY, HOUSE, 2), ((("oak", liquor(30, 20), filled),),
                                                      ((5, whole(600), (700, 3)),)))
        self.assertEqual(self.check(EASY, HOUSE, 3), ((("elm", None, ((28, 3), (32, 3))),
                                                       ("oak", filled, liquor(14, 16))), ()))
        self.assertEqual(self.check(EASY, HOUSE, 4), ((("elm", ((28, 3), (32, 3)), NOTHING),
                                                       ("oak", liquor(14, 16), filled)), ()))
        self.assertEqual(self.check(EASY, HOUSE, 5), ((("oak", filled, ((56, 3), (64, 3))),), ()))

    def test_an_emptied_cask_is_told_and_one_that_stays_is_not(self):
        ledger = ((1, ALL_HEART), (2, ("fill", "a", 50)), (2, ("fill", "b", 20)), (3, ("draw", "a", 50)))
        self.assertEqual(self.check(EASY, ledger, 3), ((("a", liquor(30, 20), NOTHING),), ()))
        self.assertEqual(self.check(EASY, ledger + ((4, ("join", "a", "b")),), 4), ((), ()))

    def test_the_entries_of_lesser_numbers_alone(self):
        for more in ((), ((3, WATER),), ((0, WATER), (1, ("draw", "a", 1)))):
            ledger = ((1, ALL_HEART), (1, ("fill", "a", 50)), (4, ("fill", "b", 20))) + more
            self.assertEqual(self.check(EASY, ledger, 2), ((("b", None, liquor(12, 8)),), ((4, None, whole(240)),)))

    def test_none_is_unlike_0(self):
        ledger = ((1, ALL_HEART), (1, WATER), (2, ("fill", "a", 5)), (3, ("fill", "b", 5)), (3, ("fill", "c", 5)))
        rules = with_duty((0, 0))
        self.assertEqual([self.check(rules, ledger, entry)[1] for entry in (2, 3, 4)],
                         [((2, None, (0, 1)),), ((3, None, (0, 1)),), ()])
        rules = with_duty((0, 0), (50, 10))
        told = self.check(rules, ((1, WATER), (3, ("fill", "a", 8)), (2, ("run", (90, 10), (0, 2)))), 2)
        self.assertEqual(told[1], ((3, (0, 1), (360, 7)),))

    def test_a_late_run_moves_casks_and_duties_behind_it(self):
        ledger = (
            (1, ALL_HEART), (2, ("fill", "a", 10)), (5, ("fill", "b", 10)), (5, ("fill", "c", 10)),
            (7, ("part", "b", "d", 5)), (8, ("fill", "e", 10)), (4, WATER),
        )
        casks, days = self.check(EASY, ledger, 6)
        self.assertEqual([row[0] for row in casks], ["b", "c", "d", "e"])
        self.assertEqual([row[0] for row in days], [5, 8])
        self.assertEqual(self.check(EASY, ledger[:6] + ((9, WATER),), 6), ((), ()))

    def test_a_late_fill_moves_those_behind_it(self):
        casks, days = self.check(EASY, SEVERAL, 6)
        self.assertEqual([row[:2] for row in casks if row[1] is None], [("d", None)])
        self.assertEqual([row[0] for row in casks], ["b", "c", "d"])
        self.assertEqual([row[0] for row in days], [2, 5, 9])

    def test_moved_casks_whose_duty_stays(self):
        # As strong as what was there: more of it changes no cask and no duty.
        ledger = ((1, ALL_HEART), (3, ("fill", "a", 50)), (2, ALL_HEART))
        self.assertEqual(self.check(EASY, ledger, 2), ((), ()))
        # Weaker, but of no duty then and now.
        casks, days = self.check(with_duty((0, 0)), ledger[:2] + ((2, WATER),), 2)
        self.assertEqual(([row[0] for row in casks], days), (["a"], ()))

    def test_all_that_was_moved_is_what_stands(self):
        for rules, ledger in [(EASY, HOUSE), (EASY, SEVERAL)] + list(dice_ledgers(48, 20)):
            casks, days = {}, {}
            for entry in range(len(ledger)):
                for there, rows in zip((casks, days), self.check(rules, ledger, entry)):
                    for key, then, now in rows:
                        self.assertEqual(there.get(key), then)
                        there[key] = now
            self.assertEqual(tuple(sorted(casks.items())), standing(rules, ledger, 9999)[2])
            self.assertEqual(tuple(sorted(days.items())), duties(rules, ledger))

    def test_nothing_ahead_of_its_day(self):
        for rules, ledger in [(EASY, SEVERAL)] + list(dice_ledgers(49, 8)):
            for entry in range(len(ledger)):
                then, now, on = ledger[:entry], ledger[:entry + 1], ledger[entry][0]
                self.check(rules, ledger, entry)
                for day in {on - 1, on // 2} - {-1, on}:
                    self.assertEqual(standing(rules, then, day), standing(rules, now, day))
                    self.assertEqual(duty_then(rules, ledger, day, entry), duty_then(rules, ledger, day, entry + 1))

    def test_sixteen_entries(self):
        ledger = ((1, ALL_HEART),) + tuple((2, ("fill", chr(97 + at), 3)) for at in range(15))
        self.assertIsNone(fails(EASY, ledger))
        self.assertEqual([row[0] for row in self.check(EASY, ledger, 15)[0]], ["o"])
        self.assertEqual(self.check(EASY, ledger, 15)[1], ((2, whole(36 * 14), whole(36 * 15)),))

    def test_refusals(self):
        right = (EASY, HOUSE, 5)
        check_refusals(self, moved, right, (
            (NoRules, NO_RULES), (NoLedger, wrong_ledgers()), (NoEntry, NO_NUMBERS + [6, 7]),
        ))
        check_refusals(self, moved, right, ((NoRules, []), (Fails, LEDGERS_THAT_FAIL)))
        check_fails(self, moved, None)
        for entry in (0, 1, -1):
            self.assertEqual(outcome(moved, EASY, (), entry), ("refused", NoEntry))
