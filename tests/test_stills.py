import random
import unittest
from fractions import Fraction

from tests import makers
from tests.things import list_of, misspelt, outcome, things, told_and_unchanged
from twicerun.errors import NoCut, NoStill
from twicerun.fractions import is_fraction
from twicerun.liquors import strength
from twicerun.runs import rows_of
from twicerun.stills import falls, is_cut, is_still, shares

ROWS = ((2, 0), (3, 1), (0, 0), (1, 4))
STILL = (ROWS, 1)
ONE = (((10, 10),), 0)
EIGHT = (((1, 0), (1, 1), (1, 1), (1, 1), (1, 1), (1, 1), (1, 1), (3, 4)), 9)
NONE_OFF = (((0, 0),) * 8, 5)


def wrong_stills():
    return things() + list(misspelt(STILL)) + list(misspelt(ONE)) + [
        list_of(STILL), 0, 1, ROWS, (ROWS,), (ROWS, 1, 1), (1, ROWS), ((), 1), (((1, 1),) * 9, 1), (((0, 0),) * 9, 0),
        (ROWS, 10), (ROWS, -1), (ROWS, True), (ROWS, False), (ROWS, None), (ROWS, "1"), (ROWS, (1,)),
        (((11, 0),), 0), (((0, 11),), 0), (((-1, 0),), 0), (((0, -1),), 0), (((5, 0), (6, 0)), 0),
        (((0, 6), (0, 5)), 0), (((11, 0), (-1, 0)), 0), (((0, 11), (0, -1)), 0), (((4, 1), (7, -1)), 0),
        (((True, 0),), 0), (((0, True),), 0), (((1, 1, 1),), 0), (((1,),), 0), (((1, 1), [1, 1]), 0), ([(1, 1)], 0),
        (((1, 1), ()), 0), (((1, 1), None), 0), ("ab", 1), ((1, 1), 1), (((10 ** 100, 0),), 0),
    ]


class Stills(unittest.TestCase):
    def test_right_ones(self):
        for right in (STILL, ONE, EIGHT, NONE_OFF, (((0, 0),), 0), (((10, 0),), 9), (((0, 10),), 9),
                      (((5, 0), (5, 10)), 0), (((0, 0),) * 7 + ((10, 10),), 9), (((4, 3), (6, 7)), 3)):
            self.assertEqual(told_and_unchanged(self, is_still, right), ("told", True))
            self.assertIs(is_still(right), True)

    def test_every_loss(self):
        for loss in range(-3, 14):
            self.assertIs(is_still((ROWS, loss)), 0 <= loss <= 9)

    def test_how_many_rows(self):
        for many in range(12):
            self.assertIs(is_still((((1, 1),) * many, 0)), 1 <= many <= 8)

    def test_tenths_together(self):
        for a in range(13):
            for b in range(13):
                self.assertIs(is_still((((a, 0), (b, 0)), 0)), a <= 10 and b <= 10 and a + b <= 10)
                self.assertIs(is_still((((0, a), (0, b)), 0)), a <= 10 and b <= 10 and a + b <= 10)

    def test_wrong_ones(self):
        for wrong in wrong_stills():
            self.assertEqual(told_and_unchanged(self, is_still, wrong), ("told", False))
            self.assertIs(is_still(wrong), False, wrong)


class Cuts(unittest.TestCase):
    def test_each_cut_within_and_beyond(self):
        for of in (STILL, ONE, EIGHT):
            many = len(of[0])
            for heart in range(-2, many + 3):
                for tails in range(-2, many + 3):
                    self.assertIs(is_cut(of, (heart, tails)), 0 <= heart <= tails <= many)

    def test_wrong_ones(self):
        more = [0, 1, 2, (2, 1), (0, 5), (5, 5), (-1, 2), (-1, -1), (0, True), (True, 2), (False, 0), (0, 1, 2), (1,),
                [0, 1], (0, None), (None, 1), ("0", "1"), (0, (1,)), {0: 1}, (10 ** 100, 10 ** 100), (0, "1")]
        for wrong in things() + list(misspelt((0, 1))) + list(misspelt((1, 3))) + more:
            self.assertEqual(told_and_unchanged(self, is_cut, STILL, wrong), ("told", False))
            self.assertIs(is_cut(STILL, wrong), False, wrong)

    def test_of_no_still(self):
        for wrong in wrong_stills():
            for thing in ((0, 1), None, [0, 1]):
                self.assertEqual(told_and_unchanged(self, is_cut, wrong, thing), ("refused", NoStill))


class Shares(unittest.TestCase):
    def test_example(self):
        spirit, water = shares(STILL, (1, 3))
        self.assertEqual(spirit, ((9, 50), (27, 100), (9, 100), (2, 5), (3, 50)))
        self.assertEqual(water, ((0, 1), (9, 100), (9, 25), (1, 2), (1, 20)))

    def test_all_in_each_part(self):
        self.assertEqual(shares(ONE, (0, 1)), (((0, 1), (1, 1), (0, 1), (0, 1), (0, 1)),) * 2)
        self.assertEqual(shares(ONE, (1, 1)), (((1, 1), (0, 1), (0, 1), (0, 1), (0, 1)),) * 2)
        self.assertEqual(shares(ONE, (0, 0)), (((0, 1), (0, 1), (1, 1), (0, 1), (0, 1)),) * 2)
        self.assertEqual(shares(NONE_OFF, (2, 5)), (((0, 1), (0, 1), (0, 1), (1, 1), (0, 1)),) * 2)

    def check(self, of, cut):
        told = shares(of, cut)
        self.assertEqual((type(told), len(told)), (tuple, 2))
        for part, five in enumerate(told):
            self.assertEqual((type(five), len(five)), (tuple, 5))
            self.assertTrue(all(is_fraction(one) for one in five))
            self.assertEqual(sum(Fraction(*one) for one in five), 1)
            self.assertEqual(five, self.wanted(of, cut, part))

    def wanted(self, of, cut, part):
        told = [Fraction(0)] * 5
        for at, row in enumerate(of[0]):
            place = 0 if at < cut[0] else 1 if at < cut[1] else 2
            told[place] += Fraction(row[part], 10) * (1 - Fraction(of[1], 10))
            told[4] += Fraction(row[part] * of[1], 100)
        told[3] = 1 - Fraction(sum(row[part] for row in of[0]), 10)
        return tuple(makers.as_pair(one) for one in told)

    def test_every_loss_and_every_cut(self):
        for rows in (ROWS, ONE[0], EIGHT[0], NONE_OFF[0]):
            for loss in range(10):
                for heart in range(len(rows) + 1):
                    for tails in range(heart, len(rows) + 1):
                        self.check((rows, loss), (heart, tails))

    def test_of_dice(self):
        dice = random.Random(7)
        for _ in range(300):
            of = makers.still(dice)
            self.check(of, makers.cut(dice, of))

    def test_refusals(self):
        for wrong in wrong_stills():
            for cut in ((0, 1), None, (2, 1)):
                self.assertEqual(told_and_unchanged(self, shares, wrong, cut), ("refused", NoStill))
        for wrong in things() + list(misspelt((0, 1))) + [(2, 1), (0, 5), (-1, 0), [0, 1], (True, 1), (0, 1, 2)]:
            self.assertEqual(told_and_unchanged(self, shares, STILL, wrong), ("refused", NoCut))
        self.assertEqual(outcome(shares, STILL, (5, 5)), ("refused", NoCut))
        self.assertEqual(shares(STILL, (1, 3))[0][0], (9, 50))


class Falling(unittest.TestCase):
    def test_examples(self):
        for rows, wanted in (
            (((5, 1), (3, 2), (2, 7)), True),
            (((3, 2), (5, 1), (2, 7)), False),
            (((5, 1), (2, 7), (3, 2)), False),
            (((2, 2), (3, 3), (1, 1)), True),
            (((5, 0), (3, 0), (0, 4)), True),
            (((0, 4), (5, 0)), False),
            (((5, 0), (0, 0), (0, 4)), True),
            (((0, 4), (0, 0), (5, 0)), False),
            (((1, 5), (0, 0), (1, 4)), False),
            (((4, 1), (0, 0), (4, 2), (0, 0)), True),
            (((0, 0), (0, 0)), True),
            (((0, 0), (1, 5)), True),
            (((0, 1), (0, 9)), True),
            (((1, 0), (9, 0)), True),
            (((3, 3),), True),
        ):
            self.assertEqual(told_and_unchanged(self, falls, (rows, 3)), ("told", wanted))
            self.assertIs(falls((rows, 3)), wanted, rows)

    def test_as_told_of_each_two_rows(self):
        dice = random.Random(8)
        found = {True: 0, False: 0}
        for _ in range(2000):
            rows = makers.still(dice)[0][:4]
            wanted = all(
                a * d >= c * b or (a, b) == (0, 0) or (c, d) == (0, 0)
                for at, (a, b) in enumerate(rows) for c, d in rows[at + 1:]
            )
            self.assertIs(falls((rows, 0)), wanted, rows)
            found[wanted] += 1
        self.assertGreater(min(found.values()), 100)

    def test_no_row_is_stronger_than_one_ahead(self):
        dice = random.Random(9)
        for _ in range(600):
            of = makers.still(dice)
            if falls(of):
                found = [strength(row) for row in rows_of(of, makers.liquor(dice))]
                found = [Fraction(*one) for one in found if one is not None]
                self.assertEqual(found, sorted(found, reverse=True))

    def test_refusals(self):
        for wrong in wrong_stills():
            self.assertEqual(told_and_unchanged(self, falls, wrong), ("refused", NoStill))
