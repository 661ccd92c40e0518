import random
import unittest
from fractions import Fraction

from tests.things import list_of, misspelt, outcome, things, told_and_unchanged
from twicerun.errors import NoNumber
from twicerun.fractions import below, fraction, is_fraction, is_whole, minus, over, plus, times

GREAT = 10 ** 100 - 1


def numbers():
    dice = random.Random(4)
    small = [-12, -7, -1, 0, 1, 2, 6, 10, 35]
    great = [dice.randrange(-GREAT, GREAT + 1) for _ in range(6)]
    return small + great + [GREAT, -GREAT, 10 ** 99, 2 ** 300]


def pairs():
    return [(top, bottom) for top in numbers() for bottom in numbers() if bottom != 0]


def as_tuple(value):
    return (value.numerator, value.denominator)


class Making(unittest.TestCase):
    def test_examples(self):
        self.assertEqual(fraction(6, 4), (3, 2))
        self.assertEqual(fraction(-6, 4), (-3, 2))
        self.assertEqual(fraction(6, -4), (-3, 2))
        self.assertEqual(fraction(-6, -4), (3, 2))
        self.assertEqual(fraction(0, 5), (0, 1))
        self.assertEqual(fraction(0, -5), (0, 1))
        self.assertEqual(fraction(7, 1), (7, 1))
        self.assertEqual(fraction(1, 7), (1, 7))

    def test_lowest_terms_with_bottom_from_1_on(self):
        for top, bottom in pairs():
            told = fraction(top, bottom)
            self.assertEqual(told, as_tuple(Fraction(top, bottom)))
            self.assertIs(type(told), tuple)
            self.assertTrue(all(type(part) is int for part in told))
            self.assertIs(is_fraction(told), True)

    def test_bottom_0_is_refused(self):
        for top in numbers():
            self.assertEqual(outcome(fraction, top, 0), ("refused", NoNumber))


class Reckoning(unittest.TestCase):
    def setUp(self):
        values = [Fraction(top, bottom) for top, bottom in pairs()]
        dice = random.Random(5)
        picked = dice.sample(values, 40) + [Fraction(n, d) for n in (-3, -1, 0, 1, 5) for d in (1, 2, 6)]
        self.both = [(one, other) for one in picked for other in picked]

    def check(self, call, wanted):
        for one, other in self.both:
            told = call(as_tuple(one), as_tuple(other))
            self.assertEqual(told, as_tuple(wanted(one, other)))
            self.assertIs(is_fraction(told), True)

    def test_plus(self):
        self.check(plus, lambda one, other: one + other)

    def test_minus(self):
        self.check(minus, lambda one, other: one - other)

    def test_times(self):
        self.check(times, lambda one, other: one * other)

    def test_over(self):
        self.both = [(one, other) for one, other in self.both if other != 0]
        self.check(over, lambda one, other: one / other)

    def test_below(self):
        for one, other in self.both:
            self.assertIs(below(as_tuple(one), as_tuple(other)), one < other)

    def test_examples(self):
        self.assertEqual(plus((1, 2), (1, 3)), (5, 6))
        self.assertEqual(plus((1, 2), (-1, 2)), (0, 1))
        self.assertEqual(minus((1, 3), (1, 2)), (-1, 6))
        self.assertEqual(times((-2, 3), (3, 4)), (-1, 2))
        self.assertEqual(over((1, 2), (-1, 4)), (-2, 1))
        self.assertEqual(over((0, 1), (-1, 4)), (0, 1))
        self.assertIs(below((1, 2), (1, 2)), False)
        self.assertIs(below((-1, 2), (-1, 3)), True)

    def test_divided_by_0_is_refused(self):
        for one in ((0, 1), (1, 2), (-1, 2), (GREAT, 1)):
            self.assertEqual(outcome(over, one, (0, 1)), ("refused", NoNumber))

    def test_a_refusal_changes_nothing_later(self):
        self.assertEqual(outcome(over, (1, 2), (0, 1)), ("refused", NoNumber))
        self.assertEqual(outcome(fraction, 1, 0), ("refused", NoNumber))
        self.assertEqual(over((1, 2), (1, 2)), (1, 1))
        self.assertEqual(fraction(2, 4), (1, 2))


class Being(unittest.TestCase):
    def test_right_ones(self):
        for right in ((0, 1), (1, 1), (-1, 1), (3, 2), (-3, 2), (GREAT, GREAT - 1), (2 ** 400, 3 ** 300)):
            self.assertIs(is_fraction(right), True, right)

    def test_not_in_lowest_terms(self):
        for wrong in ((2, 4), (-2, 4), (0, 2), (3, 3), (2 * GREAT, 2), (6, 2)):
            self.assertIs(is_fraction(wrong), False, wrong)

    def test_bottom_0_or_below(self):
        for wrong in ((1, 0), (0, 0), (1, -1), (0, -1), (3, -2), (-3, -2)):
            self.assertIs(is_fraction(wrong), False, wrong)

    def test_truths_are_no_numbers(self):
        for wrong in ((True, 1), (1, True), (False, 1), (True, True), (3, True), (True, 2)):
            self.assertIs(is_fraction(wrong), False, wrong)

    def test_written_otherwise(self):
        for right in ((0, 1), (1, 1), (3, 2)):
            self.assertIs(is_fraction(list_of(right)), False)
            for wrong in misspelt(right):
                self.assertIs(is_fraction(wrong), False, wrong)

    def test_parts_more_or_less(self):
        for wrong in ((), (1,), (3, 2, 1), (3, 2, 2)):
            self.assertIs(is_fraction(wrong), False, wrong)

    def test_things_of_any_kind(self):
        for thing in things() + [0, 1, ((1, 2), 1), (1, (2, 1)), {1: 2}, {3, 2}]:
            self.assertEqual(told_and_unchanged(self, is_fraction, thing), ("told", False))
            self.assertIs(is_fraction(thing), False, thing)
        for thing in things():
            self.assertIs(is_fraction((thing, thing)), False, thing)

    def test_whole_numbers(self):
        for right in (0, 1, -1, GREAT):
            self.assertIs(is_whole(right), True)
        for wrong in (True, False, None, "1", (1,), [1], b"1"):
            self.assertIs(is_whole(wrong), False)
