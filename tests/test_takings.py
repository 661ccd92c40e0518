import itertools
import random
import unittest
from fractions import Fraction

from tests import makers
from tests.test_stills import wrong_stills
from tests.test_walks import NO_LIQUORS
from tests.things import check_refusals, liquor, outcome, things
from twicerun.errors import NoHeads, NoLiquor, NoStill, NoStrength, NoWeight
from twicerun.fractions import is_fraction
from twicerun.stills import falls
from twicerun.takings import best_cut, ceiling, most

NOTHING = makers.NOTHING
STILL = (((2, 0), (3, 1), (1, 4)), 1)
CHARGE = liquor(100, 200)
# Weak first, strong last, a row without anything, one of water, one of spirit.
RISING = (((1, 4), (0, 0), (2, 2), (0, 2), (3, 1), (4, 0)), 0)
CHARGES = (
    NOTHING, liquor(7, 0), liquor(0, 7), CHARGE, ((1, 3), (2, 7)), ((makers.GREAT, 7), (1, makers.GREAT)),
    liquor(makers.GREAT, makers.GREAT),
)
NO_HEADS = things() + [4, 9, -1, True, False, "1", (1,), [1], (1, 1), 10 ** 100]
NO_STRENGTHS = things() + [101, -1, True, False, "1", (1,), [1], (1, 1), 10 ** 100]
NO_WEIGHTS = things() + [0, 1, (-1, 1), (2, 4), (0, 2), (1, 0), (1, -1), [1, 2], (True, 1), (1, True), ("1", 1), (1,)]


def rows_off(still, charge):
    """S and W of each row, as Fractions, from the rows of the still alone."""
    rows, loss = still
    return [
        [makers.as_fraction(charge[part]) * Fraction(row[part] * (10 - loss), 100) for part in (0, 1)] for row in rows
    ]


def spared(pair, strength):
    return 100 * pair[0] - strength * (pair[0] + pair[1])


def ceiling_by_hand(rows, heads, strength, weight):
    return sum(max(row[0] + weight * spared(row, strength), 0) for row in rows[heads:])


def heart_of(rows, taking):
    return [sum((part * row[at] for part, row in zip(taking, rows)), Fraction(0)) for at in (0, 1)]


def dice_questions(dice, many):
    for _ in range(many):
        still = makers.still(dice)
        heads = dice.choice((0, len(still[0]), dice.randrange(len(still[0]) + 1)))
        yield still, makers.liquor(dice), heads, dice.choice((0, 1, 50, 99, 100, dice.randrange(101)))


class Ceiling(unittest.TestCase):
    def check(self, still, charge, heads, strength, weight):
        told = ceiling(still, charge, heads, strength, weight)
        self.assertTrue(is_fraction(told))
        wanted = ceiling_by_hand(rows_off(still, charge), heads, strength, makers.as_fraction(weight))
        self.assertEqual(makers.as_fraction(told), wanted)
        return told

    def test_example(self):
        # The rows are (18, 0), (27, 18) and (9, 72); at 50 they spare 900, 450 and -3150.
        self.assertEqual(ceiling(STILL, CHARGE, 0, 50, (0, 1)), (54, 1))
        self.assertEqual(ceiling(STILL, CHARGE, 0, 50, (1, 1)), (18 + 900 + 27 + 450, 1))
        self.assertEqual(ceiling(STILL, CHARGE, 0, 50, (1, 450)), (18 + 2 + 27 + 1 + 2, 1))
        self.assertEqual(ceiling(STILL, CHARGE, 1, 50, (1, 450)), (27 + 1 + 2, 1))
        self.assertEqual(ceiling(STILL, CHARGE, 3, 50, (1, 450)), (0, 1))

    def test_charges_heads_strengths_and_weights(self):
        for still, charge in itertools.product((STILL, RISING), CHARGES):
            for heads, strength in itertools.product((0, 1, len(still[0])), (0, 1, 50, 100)):
                for weight in ((0, 1), (1, 1), (7, 1), (1, 350), (3, 7), (1, makers.GREAT), (makers.GREAT, 1)):
                    self.check(still, charge, heads, strength, weight)

    def test_of_dice(self):
        dice = random.Random(31)
        for question in dice_questions(dice, 150):
            self.check(*question, makers.part(dice))

    def test_refusals(self):
        check_refusals(self, ceiling, (STILL, CHARGE, 1, 50, (1, 2)), (
            (NoStill, wrong_stills()), (NoLiquor, NO_LIQUORS), (NoHeads, NO_HEADS), (NoStrength, NO_STRENGTHS),
            (NoWeight, NO_WEIGHTS),
        ))


class Most(unittest.TestCase):
    def check(self, still, charge, heads, strength):
        told = most(still, charge, heads, strength)
        self.assertEqual((type(told), len(told)), (tuple, 3))
        spirit, taking, weight = told
        self.assertTrue(is_fraction(spirit) and is_fraction(weight) and weight[0] >= 0)
        self.assertEqual((type(taking), len(taking)), (tuple, len(still[0])))
        self.assertTrue(all(is_fraction(part) for part in taking))
        parts = [makers.as_fraction(part) for part in taking]
        self.assertTrue(all(0 <= part <= 1 for part in parts))
        self.assertTrue(all(part == 0 for part in parts[:heads]))
        rows = rows_off(still, charge)
        heart = heart_of(rows, parts)
        self.assertGreaterEqual(spared(heart, strength), 0)
        self.assertEqual(heart[0], makers.as_fraction(spirit))
        by_hand = ceiling_by_hand(rows, heads, strength, makers.as_fraction(weight))
        self.assertEqual(by_hand, heart[0])
        self.assertEqual(ceiling(still, charge, heads, strength, weight), spirit)
        self.assertEqual(most(still, charge, heads, strength), told)
        return told

    def test_example(self):
        # The last row costs 3150, the others spare 1350 together: 3/7 of it.
        self.assertEqual(self.check(STILL, CHARGE, 0, 50), ((342, 7), ((1, 1), (1, 1), (3, 7)), (1, 350)))
        self.assertEqual(self.check(STILL, CHARGE, 1, 50)[0], (27 * 7 + 9, 7))
        self.assertEqual(self.check(STILL, CHARGE, 0, 0)[0], (54, 1))
        self.assertEqual(self.check(STILL, CHARGE, 0, 100)[0], (18, 1))
        self.assertEqual(self.check(STILL, CHARGE, 3, 0)[:2], ((0, 1), ((0, 1),) * 3))

    def test_no_other_taking_has_more(self):
        dice = random.Random(32)
        parts = [Fraction(0), Fraction(1, 2), Fraction(1)]
        for still, charge, heads, strength in list(dice_questions(dice, 40)) + [(RISING, CHARGE, 0, 60)]:
            rows = rows_off(still, charge)
            spirit = makers.as_fraction(self.check(still, charge, heads, strength)[0])
            for _ in range(60):
                taking = [dice.choice(parts + [Fraction(dice.randrange(100), 99)]) if at >= heads else Fraction(0)
                          for at in range(len(rows))]
                heart = heart_of(rows, taking)
                if spared(heart, strength) >= 0:
                    self.assertLessEqual(heart[0], spirit)

    def test_stills_charges_heads_and_strengths(self):
        self.assertEqual([falls(still) for still in (STILL, RISING)], [True, False])
        for still, charge in itertools.product((STILL, RISING, (RISING[0][::-1], 9)), CHARGES):
            for heads, strength in itertools.product(range(len(still[0]) + 1), (0, 1, 33, 50, 67, 99, 100)):
                self.check(still, charge, heads, strength)

    def test_rows_in_which_nothing_runs_off(self):
        for rows in (((0, 0),), ((0, 0), (0, 0)), ((0, 0), (5, 5), (0, 0))):
            for strength in (0, 50, 100):
                self.check((rows, 0), CHARGE, 0, strength)
                self.check((rows, 9), liquor(1, 1), len(rows), strength)

    def test_none_but_the_empty_one(self):
        still = (((1, 1), (2, 2), (0, 3)), 0)
        for strength, spirit in ((51, 0), (50, 3), (100, 0)):
            told = self.check(still, liquor(10, 10), 0, strength)
            self.assertEqual(told[0], (spirit, 1))
            if spirit == 0:
                self.assertEqual(told[1], ((0, 1),) * 3)

    def test_the_worthiest_weak_rows_come_first(self):
        # 250 are spared; of the weak rows the last alone has spirit, and costs 100.
        still = (((5, 0), (0, 4), (0, 3), (1, 3)), 0)
        told = self.check(still, liquor(10, 10), 0, 50)
        self.assertEqual(told[:2], ((6, 1), ((1, 1), (0, 1), (0, 1), (1, 1))))
        # 150 are spared: all of the row that gives 2 for 150, nothing of that which gives 1 for 100.
        still = (((2, 0), (1, 3), (2, 5), (3, 2)), 0)
        self.assertEqual(self.check(still, liquor(10, 10), 0, 50)[1], ((1, 1), (0, 1), (1, 1), (1, 1)))
        still = (((2, 0), (2, 5), (1, 3), (3, 2)), 0)
        self.assertEqual(self.check(still, liquor(10, 10), 0, 50)[1], ((1, 1), (1, 1), (0, 1), (1, 1)))

    def test_several_weak_rows_in_any_order(self):
        for rows in itertools.permutations(((4, 0), (1, 2), (2, 3), (1, 1), (2, 4))):
            for strength in range(40, 100, 7):
                self.check((rows, 0), liquor(10, 10), 0, strength)
                self.check((rows, 0), liquor(7, 10), 1, strength)

    def test_of_dice(self):
        for question in dice_questions(random.Random(33), 400):
            self.check(*question)

    def test_refusals(self):
        check_refusals(self, most, (STILL, CHARGE, 1, 50), (
            (NoStill, wrong_stills()), (NoLiquor, NO_LIQUORS), (NoHeads, NO_HEADS), (NoStrength, NO_STRENGTHS),
        ))

    def test_heads_are_by_the_still(self):
        for still in (STILL, RISING, (((1, 1),), 0)):
            for heads in range(-1, 9):
                for call in (most, best_cut):
                    told = outcome(call, still, CHARGE, heads, 50)
                    self.assertEqual(told[0] == "told", 0 <= heads <= len(still[0]))


class BestCut(unittest.TestCase):
    def check(self, still, charge, heads, strength):
        told = best_cut(still, charge, heads, strength)
        rows = rows_off(still, charge)
        found = []
        for cut in itertools.product(range(len(rows) + 1), repeat=2):
            heart = heart_of(rows[cut[0]:cut[1]], [1] * len(rows))
            if heads <= cut[0] <= cut[1] and spared(heart, strength) >= 0:
                found.append((-heart[0], cut))
        best = min(found)
        self.assertEqual(told, (makers.as_pair(-best[0]), best[1]))
        self.assertEqual((type(told), type(told[1])), (tuple, tuple))
        spirit = makers.as_fraction(most(still, charge, heads, strength)[0])
        self.assertLessEqual(makers.as_fraction(told[0]), spirit)
        return told

    def test_example(self):
        self.assertEqual(self.check(STILL, CHARGE, 0, 50), ((45, 1), (0, 2)))
        self.assertEqual(self.check(STILL, CHARGE, 1, 50), ((27, 1), (1, 2)))
        self.assertEqual(self.check(STILL, CHARGE, 2, 50), ((0, 1), (2, 2)))
        self.assertEqual(self.check(STILL, CHARGE, 3, 50), ((0, 1), (3, 3)))
        self.assertEqual(self.check(STILL, CHARGE, 0, 0), ((54, 1), (0, 3)))

    def test_a_heart_of_just_this_strength(self):
        # 27 of 45 measures in the middle row, 45 of 63 in the first two.
        self.assertEqual(self.check(STILL, CHARGE, 1, 60), ((27, 1), (1, 2)))
        self.assertEqual(self.check(STILL, CHARGE, 1, 61), ((0, 1), (1, 1)))
        self.assertEqual(self.check(STILL, CHARGE, 0, 71), ((45, 1), (0, 2)))
        self.assertEqual(self.check(STILL, CHARGE, 0, 72), ((18, 1), (0, 1)))
        # 100 S - 50 M is -1, then 0.
        self.assertEqual(self.check((((10, 10),), 0), ((1, 1), (51, 50)), 0, 50), ((0, 1), (0, 0)))
        self.assertEqual(self.check((((10, 10),), 0), ((1, 1), (1, 1)), 0, 50), ((1, 1), (0, 1)))

    def test_of_alike_ones_the_least(self):
        still = (((0, 0), (3, 0), (0, 0), (3, 0), (0, 3), (3, 3)), 0)
        self.assertEqual(self.check(still, liquor(10, 10), 0, 100), ((6, 1), (0, 4)))
        self.assertEqual(self.check(still, liquor(10, 10), 1, 100), ((6, 1), (1, 4)))
        self.assertEqual(self.check(still, liquor(10, 10), 2, 100), ((3, 1), (2, 4)))
        self.assertEqual(self.check(still, NOTHING, 0, 100), ((0, 1), (0, 0)))
        self.assertEqual(self.check(still, liquor(0, 5), 4, 0), ((0, 1), (4, 4)))
        # Alike in spirit, the ones behind the others.
        self.assertEqual(self.check((((3, 3), (3, 3), (3, 3)), 0), liquor(10, 10), 0, 51), ((0, 1), (0, 0)))
        self.assertEqual(self.check((((3, 0), (0, 9), (3, 0)), 0), liquor(10, 10), 0, 51), ((3, 1), (0, 1)))

    def test_of_dice(self):
        for question in dice_questions(random.Random(34), 300):
            self.check(*question)
        for heads, strength in itertools.product(range(7), (0, 20, 50, 60, 75, 100)):
            self.check(RISING, CHARGE, heads, strength)

    def test_refusals(self):
        check_refusals(self, best_cut, (STILL, CHARGE, 1, 50), (
            (NoStill, wrong_stills()), (NoLiquor, NO_LIQUORS), (NoHeads, NO_HEADS), (NoStrength, NO_STRENGTHS),
        ))
