import random
import unittest
from fractions import Fraction

from tests import makers
from tests.test_walks import FIRST, NO_LIQUORS, SECOND
from tests.things import check_refusals, liquor, list_of, misspelt, things, told_and_unchanged
from twicerun.duties import duty_of, is_duty, is_rules
from twicerun.errors import NoDuty, NoLiquor
from twicerun.fractions import is_fraction

NOTHING = makers.NOTHING
DUTY = ((0, 10), (40, 20), (60, 7))
FIVE = ((0, 999), (1, 0), (2, 1), (99, 5), (100, 999))
RULES = (FIRST, SECOND, 500, 1, DUTY)
NO_DUTIES = things() + list(misspelt(DUTY)) + list(misspelt(((0, 0), (1, 1)))) + [
    list_of(DUTY), (), 0, (0, 10), ((1, 10),), ((1, 10), (2, 10)), ((0, 10), (0, 11)), ((0, 10), (40, 1), (40, 2)),
    ((0, 10), (40, 1), (30, 2)), ((40, 1), (0, 1)), ((0, 10), (101, 1)), ((0, 1000),), ((0, -1),), ((-1, 5), (0, 5)),
    ((0, 1), (1, 1), (2, 1), (3, 1), (4, 1), (5, 1)), ((False, 1),), ((0, True),), ((0, 1), (True, 1)), [(0, 1)],
    ([0, 1],), ((0, 1, 1),), ((0,),), ((0, 1), None), ((0, 1), ()), ((0, (1, 1)),), (((0, 1), 1),), (("0", 1),),
    ((0, 10 ** 100),), ((0, 1), (10 ** 100, 1)),
]
NO_RULES = things() + list(misspelt(RULES)) + [
    list_of(RULES), 0, RULES[:4], RULES + (1,), (FIRST, SECOND, 0, 1, DUTY), (FIRST, SECOND, 100000, 1, DUTY),
    (FIRST, SECOND, True, 1, DUTY), (FIRST, SECOND, 500, -1, DUTY), (FIRST, SECOND, 500, 10, DUTY),
    (FIRST, SECOND, 500, True, DUTY), (FIRST, SECOND, 500, False, DUTY), (FIRST, SECOND, 500, 1, ()),
    (FIRST, SECOND, 500, 1, None), (FIRST, SECOND, 500, None, DUTY), (FIRST, SECOND, None, 1, DUTY),
    (FIRST, None, 500, 1, DUTY), (None, SECOND, 500, 1, DUTY), ((FIRST[0], 10), SECOND, 500, 1, DUTY),
    (FIRST, (SECOND[0], 10), 500, 1, DUTY), (FIRST, SECOND, 500, 1, ((1, 1),)), (FIRST, SECOND, 1, 500, DUTY),
    (500, 1, FIRST, SECOND, DUTY), ((FIRST, SECOND), 500, 1, DUTY), (FIRST, SECOND, (500, 1), 1, DUTY),
] + [(FIRST, SECOND, 500, 1, wrong) for wrong in NO_DUTIES]


class Duties(unittest.TestCase):
    def test_right_ones(self):
        for right in (DUTY, FIVE, ((0, 0),), ((0, 999),), ((0, 5), (1, 5)), ((0, 5), (100, 5)), FIVE[:4]):
            self.assertEqual(told_and_unchanged(self, is_duty, right), ("told", True))
            self.assertIs(is_duty(right), True)

    def test_wrong_ones(self):
        for wrong in NO_DUTIES:
            told = told_and_unchanged(self, is_duty, wrong)
            self.assertEqual(told, ("told", False), wrong)
            self.assertIs(told[1], False)

    def test_every_from_rate_and_number_of_rows(self):
        for number in range(-2, 1003):
            self.assertIs(is_duty(((0, number),)), 0 <= number <= 999)
            self.assertIs(is_duty(((0, 1), (number, 1))), 1 <= number <= 100)
        for many in range(8):
            self.assertIs(is_duty(tuple((at, 1) for at in range(many))), 1 <= many <= 5)


class Rules(unittest.TestCase):
    def test_right_ones(self):
        for right in (RULES, (SECOND, FIRST, 1, 0, FIVE), (FIRST, FIRST, 99999, 9, ((0, 0),))):
            self.assertEqual(told_and_unchanged(self, is_rules, right), ("told", True))
            self.assertIs(is_rules(right), True)

    def test_wrong_ones(self):
        for wrong in NO_RULES:
            told = told_and_unchanged(self, is_rules, wrong)
            self.assertEqual(told, ("told", False), wrong)
            self.assertIs(told[1], False)

    def test_every_sample(self):
        for sample in range(-2, 13):
            self.assertIs(is_rules((FIRST, SECOND, 500, sample, DUTY)), 0 <= sample <= 9)


def duty_by_hand(duty, of):
    spirit, water = [makers.as_fraction(part) for part in of]
    if spirit + water == 0:
        return Fraction(0)
    rates = [rate for start, rate in duty if Fraction(start, 100) <= spirit / (spirit + water)]
    return spirit * rates[-1]


class DutyOf(unittest.TestCase):
    def check(self, duty, of):
        told = duty_of(duty, of)
        self.assertTrue(is_fraction(told))
        self.assertEqual(makers.as_fraction(told), duty_by_hand(duty, of))
        return told

    def test_example(self):
        self.assertEqual([self.check(DUTY, liquor(spirit, 100 - spirit)) for spirit in (0, 39, 40, 59, 60, 100)],
                         [(0, 1), (390, 1), (800, 1), (1180, 1), (420, 1), (700, 1)])
        self.assertEqual(self.check(DUTY, ((1, 3), (1, 3))), (20, 3))

    def test_just_as_strong_a_little_more_and_a_little_less(self):
        little = Fraction(1, 10 ** 90)
        for duty in (DUTY, FIVE):
            for at, (start, rate) in enumerate(duty):
                self.assertEqual(self.check(duty, liquor(start, 100 - start)), (start * rate, 1))
                if start < 100:
                    more = Fraction(start) + little
                    told = self.check(duty, (makers.as_pair(more), (100 - start, 1)))
                    self.assertEqual(makers.as_fraction(told), more * rate)
                if start > 0:
                    less = Fraction(start) - little
                    told = self.check(duty, (makers.as_pair(less), makers.as_pair(100 - less)))
                    self.assertEqual(makers.as_fraction(told), less * duty[at - 1][1])

    def test_without_measures_and_without_spirit(self):
        for duty in (DUTY, FIVE, ((0, 999),)):
            self.assertEqual(self.check(duty, NOTHING), (0, 1))
            self.assertEqual(self.check(duty, liquor(0, 5)), (0, 1))
            self.assertEqual(self.check(duty, liquor(5, 0)), (5 * duty[-1][1], 1))

    def test_up_to_100_figures(self):
        dice = random.Random(41)
        great = makers.GREAT
        for of in (liquor(great, great), ((1, great), (1, great)), ((great, 7), (7, great)), ((7, great), (great, 7))):
            self.check(DUTY, of)
        for _ in range(100):
            self.check(dice.choice((DUTY, FIVE)), makers.liquor(dice))

    def test_refusals(self):
        check_refusals(self, duty_of, (DUTY, liquor(1, 2)), ((NoDuty, NO_DUTIES), (NoLiquor, NO_LIQUORS)))
