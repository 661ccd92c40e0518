import random
import unittest
from fractions import Fraction

from tests import makers
from tests.things import liquor, misspelt, outcome, things, told_and_unchanged
from twicerun.errors import NoCut, NoLiquor, NoStill, NoStrength
from twicerun.liquors import is_liquor, strength
from twicerun.runs import cut_by, rows_of, run
from twicerun.stills import shares

NOTHING = makers.NOTHING
STILL = (((2, 0), (3, 1), (0, 0), (1, 4)), 1)
CHARGES = (
    NOTHING, liquor(100, 0), liquor(0, 100), liquor(100, 200), ((1, 3), (5, 7)), ((1, 3), (0, 1)), ((0, 1), (2, 9)),
    liquor(makers.GREAT, makers.GREAT - 1), ((makers.GREAT, makers.GREAT - 1), (makers.GREAT - 2, makers.GREAT)),
)
NO_STILLS = things() + [list(STILL), STILL[0], (STILL[0], 10), (STILL[0], True), ((), 1)]
NO_LIQUORS = things() + list(misspelt(liquor(1, 1))) + [
    1, (1, 1), liquor(-1, 0), liquor(0, -1), ((2, 4), (1, 1)), ((1, 1), (1, 0)), list(liquor(1, 1)), ((True, 1), (1, 1)),
    ((1, 1),), ((1, 1), (1, 1), (1, 1)),
]
NO_STRENGTHS = things() + [101, -1, "50", (50,), [50], True, False, None, (1, 2)]


class Runs(unittest.TestCase):
    def test_example(self):
        self.assertEqual(run(STILL, (1, 3), liquor(100, 200)), (
            ((18, 1), (0, 1)), ((27, 1), (18, 1)), ((9, 1), (72, 1)), ((40, 1), (100, 1)), ((6, 1), (10, 1)),
        ))

    def check(self, of, cut, charge):
        told = run(of, cut, charge)
        self.assertEqual((type(told), len(told)), (tuple, 5))
        self.assertTrue(all(is_liquor(one) for one in told))
        self.assertEqual(makers.total(told), charge)
        for part in (0, 1):
            for share, one in zip(shares(of, cut)[part], told):
                self.assertEqual(Fraction(*share) * Fraction(*charge[part]), Fraction(*one[part]))

    def test_what_goes_in_is_what_comes_out(self):
        for charge in CHARGES:
            for cut in ((0, 0), (0, 4), (4, 4), (1, 3), (2, 2)):
                self.check(STILL, cut, charge)

    def test_of_dice(self):
        dice = random.Random(10)
        for _ in range(300):
            of = makers.still(dice)
            self.check(of, makers.cut(dice, of), makers.liquor(dice))

    def test_charge_of_nothing(self):
        self.assertEqual(run(STILL, (1, 3), NOTHING), (NOTHING,) * 5)

    def test_nothing_that_is_handed_in_is_changed(self):
        self.assertEqual(told_and_unchanged(self, run, STILL, (1, 3), CHARGES[3])[0], "told")
        self.assertEqual(told_and_unchanged(self, rows_of, STILL, CHARGES[3])[0], "told")
        self.assertEqual(told_and_unchanged(self, cut_by, STILL, CHARGES[3], 70, 30)[0], "told")


class Rows(unittest.TestCase):
    def test_example(self):
        self.assertEqual(rows_of(STILL, liquor(100, 200)), (
            ((18, 1), (0, 1)), ((27, 1), (18, 1)), NOTHING, ((9, 1), (72, 1)),
        ))

    def check(self, of, charge):
        told = rows_of(of, charge)
        self.assertEqual((type(told), len(told)), (tuple, len(of[0])))
        self.assertTrue(all(is_liquor(one) for one in told))
        for row, one in zip(of[0], told):
            for part in (0, 1):
                wanted = Fraction(row[part], 10) * (1 - Fraction(of[1], 10)) * Fraction(*charge[part])
                self.assertEqual(Fraction(*one[part]), wanted)

    def test_of_dice(self):
        dice = random.Random(11)
        for charge in CHARGES:
            self.check(STILL, charge)
        for _ in range(200):
            self.check(makers.still(dice), makers.liquor(dice))

    def test_rows_are_heads_heart_and_tails(self):
        dice = random.Random(12)
        for _ in range(100):
            of, charge = makers.still(dice), makers.liquor(dice)
            cut = makers.cut(dice, of)
            rows, parts = rows_of(of, charge), run(of, cut, charge)
            self.assertEqual(makers.total(rows[:cut[0]]), parts[0])
            self.assertEqual(makers.total(rows[cut[0]:cut[1]]), parts[1])
            self.assertEqual(makers.total(rows[cut[1]:]), parts[2])


class CutByStrengths(unittest.TestCase):
    # Charged with 100 and 100: strengths of 100, 80, 50 and 20 hundredths, and 0.
    FALLING = (((1, 0), (4, 1), (0, 0), (3, 3), (1, 4), (0, 2)), 2)
    CHARGE = liquor(100, 100)

    def test_examples(self):
        for high, low, wanted in (
            (100, 0, (0, 6)), (100, 100, (0, 1)), (99, 0, (1, 6)), (99, 99, (1, 1)), (80, 80, (1, 3)), (80, 79, (1, 3)),
            (81, 81, (1, 1)), (79, 0, (3, 6)), (79, 50, (3, 4)), (79, 51, (3, 3)), (50, 50, (3, 4)), (49, 20, (4, 5)),
            (49, 21, (4, 4)), (20, 1, (4, 5)), (19, 1, (5, 5)), (19, 0, (5, 6)), (0, 0, (5, 6)), (100, 51, (0, 3)),
            (100, 50, (0, 4)), (100, 1, (0, 5)), (80, 20, (1, 5)),
        ):
            self.assertEqual(cut_by(self.FALLING, self.CHARGE, high, low), wanted, (high, low))

    def test_rows_in_which_nothing_runs_off(self):
        spirit, water = liquor(7, 0), liquor(0, 7)
        self.assertEqual(cut_by(self.FALLING, NOTHING, 100, 0), (6, 6))
        self.assertEqual(cut_by(self.FALLING, NOTHING, 0, 0), (6, 6))
        self.assertEqual(cut_by(self.FALLING, spirit, 100, 100), (0, 6))
        self.assertEqual(cut_by(self.FALLING, spirit, 99, 0), (6, 6))
        self.assertEqual(cut_by(self.FALLING, water, 100, 0), (1, 6))
        self.assertEqual(cut_by(self.FALLING, water, 0, 0), (1, 6))
        self.assertEqual(cut_by(self.FALLING, water, 1, 1), (1, 1))
        self.assertEqual(cut_by((((0, 0), (0, 0)), 0), self.CHARGE, 100, 0), (2, 2))

    def test_rows_that_do_not_fall(self):
        of = (((1, 4), (4, 1), (1, 4), (4, 1)), 0)
        self.assertEqual(cut_by(of, self.CHARGE, 100, 50), (0, 0))
        self.assertEqual(cut_by(of, self.CHARGE, 100, 20), (0, 4))
        self.assertEqual(cut_by((of[0][1:], 0), self.CHARGE, 100, 50), (0, 1))

    def test_just_at_above_and_below(self):
        of = (((10, 10),), 0)
        for top, bottom, high_cut, low_cut in (
            (500, 500, (0, 1), (0, 1)), (501, 499, (1, 1), (0, 1)), (499, 501, (0, 1), (0, 0)),
        ):
            charge = liquor(top, bottom)
            self.assertEqual(cut_by(of, charge, 50, 0), high_cut)
            self.assertEqual(cut_by(of, charge, 100, 50), low_cut)

    def wanted(self, of, charge, high, low):
        found = [strength(row) for row in rows_of(of, charge)]
        many = len(found)
        heart = [at for at in range(many) if found[at] is not None and 100 * Fraction(*found[at]) <= high]
        start = heart[0] if heart else many
        tails = [at for at in range(start, many) if found[at] is not None and 100 * Fraction(*found[at]) < low]
        return (start, tails[0] if tails else many)

    def test_of_dice(self):
        dice = random.Random(13)
        for _ in range(600):
            of, charge = makers.still(dice), makers.liquor(dice)
            low, high = sorted((dice.randrange(101), dice.randrange(101)))
            told = cut_by(of, charge, high, low)
            self.assertEqual(told, self.wanted(of, charge, high, low))
            self.assertIs(type(told), tuple)


class Refusals(unittest.TestCase):
    def test_run(self):
        for wrong in NO_STILLS:
            for cut, charge in (((1, 3), liquor(1, 1)), (None, liquor(1, 1)), ((1, 3), None), ((3, 1), -1)):
                self.assertEqual(told_and_unchanged(self, run, wrong, cut, charge), ("refused", NoStill))
        for wrong in things() + [(3, 1), (0, 5), [0, 1], (True, 1), (0, 1, 2), (-1, 0)]:
            for charge in (liquor(1, 1), None, liquor(-1, 0)):
                self.assertEqual(told_and_unchanged(self, run, STILL, wrong, charge), ("refused", NoCut))
        for wrong in NO_LIQUORS:
            self.assertEqual(told_and_unchanged(self, run, STILL, (1, 3), wrong), ("refused", NoLiquor))

    def test_rows_of(self):
        for wrong in NO_STILLS:
            for charge in (liquor(1, 1), None):
                self.assertEqual(told_and_unchanged(self, rows_of, wrong, charge), ("refused", NoStill))
        for wrong in NO_LIQUORS:
            self.assertEqual(told_and_unchanged(self, rows_of, STILL, wrong), ("refused", NoLiquor))

    def test_cut_by(self):
        for wrong in NO_STILLS:
            for charge, high, low in ((liquor(1, 1), 60, 40), (None, 60, 40), (None, None, None), (liquor(1, 1), 1, 2)):
                self.assertEqual(told_and_unchanged(self, cut_by, wrong, charge, high, low), ("refused", NoStill))
        for wrong in NO_LIQUORS:
            for high, low in ((60, 40), (None, 40), (60, None), (40, 60)):
                self.assertEqual(told_and_unchanged(self, cut_by, STILL, wrong, high, low), ("refused", NoLiquor))
        for wrong in NO_STRENGTHS:
            for high, low in ((wrong, 0), (100, wrong), (wrong, wrong)):
                told = told_and_unchanged(self, cut_by, STILL, liquor(1, 1), high, low)
                self.assertEqual(told, ("refused", NoStrength))

    def test_low_above_high(self):
        for high, low in ((0, 1), (40, 60), (99, 100), (59, 60), (0, 100)):
            self.assertEqual(outcome(cut_by, STILL, liquor(1, 1), high, low), ("refused", NoStrength))
            self.assertEqual(outcome(cut_by, STILL, liquor(1, 1), low, high)[0], "told")

    def test_a_refusal_changes_nothing_later(self):
        before = run(STILL, (1, 3), liquor(5, 6))
        for arguments in ((None, (1, 3), liquor(5, 6)), (STILL, (3, 1), liquor(5, 6)), (STILL, (1, 3), None)):
            self.assertEqual(outcome(run, *arguments)[0], "refused")
            self.assertEqual(run(STILL, (1, 3), liquor(5, 6)), before)
