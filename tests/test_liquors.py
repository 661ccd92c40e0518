import random
import unittest
from fractions import Fraction

from tests.things import list_of, liquor, misspelt, things, told_and_unchanged
from twicerun.fractions import is_fraction
from twicerun.liquors import is_liquor, measures, strength, together

GREAT = 10 ** 100 - 1
NOTHING = ((0, 1), (0, 1))
LIQUORS = (
    NOTHING, liquor(5, 0), liquor(0, 7), liquor(3, 9), ((1, 3), (5, 7)), ((1, 2), (1, 2)), ((7, 10), (0, 1)),
    ((0, 1), (3, 8)), liquor(GREAT, GREAT - 1), ((GREAT, GREAT - 1), (1, GREAT)), ((1, 6), (5, 6)),
)


def as_tuple(value):
    return (value.numerator, value.denominator)


class Reckoning(unittest.TestCase):
    def test_together(self):
        for one in LIQUORS:
            for other in LIQUORS:
                wanted = tuple(as_tuple(Fraction(*a) + Fraction(*b)) for a, b in zip(one, other))
                self.assertEqual(told_and_unchanged(self, together, one, other), ("told", wanted))
                self.assertIs(is_liquor(together(one, other)), True)

    def test_measures(self):
        for one in LIQUORS:
            wanted = as_tuple(Fraction(*one[0]) + Fraction(*one[1]))
            self.assertEqual(told_and_unchanged(self, measures, one), ("told", wanted))
            self.assertIs(is_fraction(measures(one)), True)

    def test_strength(self):
        for one in LIQUORS[1:]:
            spirit, water = Fraction(*one[0]), Fraction(*one[1])
            told = told_and_unchanged(self, strength, one)
            self.assertEqual(told, ("told", as_tuple(spirit / (spirit + water))))
            self.assertIs(is_fraction(told[1]), True)

    def test_examples(self):
        self.assertEqual(together(liquor(1, 2), ((1, 2), (1, 3))), ((3, 2), (7, 3)))
        self.assertEqual(measures(((1, 2), (1, 2))), (1, 1))
        self.assertEqual(strength(liquor(3, 9)), (1, 4))
        self.assertEqual(strength(liquor(5, 0)), (1, 1))
        self.assertEqual(strength(liquor(0, 7)), (0, 1))

    def test_nothing_has_no_strength(self):
        self.assertIsNone(strength(NOTHING))
        self.assertEqual(measures(NOTHING), (0, 1))
        self.assertEqual(together(NOTHING, NOTHING), NOTHING)


class Being(unittest.TestCase):
    def test_right_ones(self):
        for right in LIQUORS:
            self.assertIs(is_liquor(right), True, right)

    def test_parts_below_0(self):
        for wrong in (liquor(-1, 1), liquor(1, -1), liquor(-1, -1), ((-1, 3), (1, 1)), ((0, 1), (-1, 100))):
            self.assertIs(is_liquor(wrong), False, wrong)

    def test_parts_that_are_no_fractions(self):
        for wrong in (((2, 4), (1, 1)), ((1, 1), (2, 4)), ((1, 0), (1, 1)), ((1, 1), (0, 2)), ((1, -1), (1, 1)),
                      (1, 1), (1, (1, 1)), ((1, 1), 1), ((True, 1), (1, 1)), ((1, 1), (1, True)), (None, (1, 1))):
            self.assertIs(is_liquor(wrong), False, wrong)

    def test_written_otherwise(self):
        for right in LIQUORS[:5]:
            self.assertIs(is_liquor(list_of(right)), False)
            for wrong in misspelt(right):
                self.assertIs(is_liquor(wrong), False, wrong)

    def test_parts_more_or_less(self):
        part = (1, 1)
        for wrong in ((), (part,), (part, part, part)):
            self.assertIs(is_liquor(wrong), False, wrong)

    def test_things_of_any_kind(self):
        dice = random.Random(6)
        kinds = things() + [0, 1]
        for thing in kinds + [(dice.choice(kinds), dice.choice(kinds)) for _ in range(300)]:
            self.assertEqual(told_and_unchanged(self, is_liquor, thing), ("told", False))
            self.assertIs(is_liquor(thing), False)
        for thing in kinds:
            self.assertIs(is_liquor(((1, 1), thing)), False)
            self.assertIs(is_liquor((thing, (1, 1))), False)
