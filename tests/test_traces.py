import random
import unittest
from fractions import Fraction

from tests import makers, rounds
from tests.test_steadies import KEEPS, WHOLE
from tests.test_walks import NO_LIQUORS, NO_PLANS, NO_STEPS, PLAN, STEP
from tests.things import check_refusals, liquor, outcome, things
from twicerun.errors import NoCount, NoLiquor, NoPlan, NoStep
from twicerun.fractions import is_fraction
from twicerun.liquors import is_liquor
from twicerun.traces import ages, traced
from twicerun.walks import walk

NOTHING = makers.NOTHING
NO_AGES = things() + [41, 400, -1, True, False, "1", (1,), [1], (1, 1), 10 ** 100]


def alone(plan, steps, kept, number):
    """The HEARTs where but one WASH, or what was kept at first, is anything."""
    less = tuple((wash if at == number else (0, 0), cut) for at, (wash, cut) in enumerate(steps))
    return [row[1] for row in walk(plan, less, kept if number == -1 else NOTHING)]


class Traced(unittest.TestCase):
    def check(self, plan, steps, kept):
        told = traced(plan, steps, kept)
        self.assertEqual((type(told), len(told)), (tuple, len(steps)))
        hearts = [row[1] for row in walk(plan, steps, kept)]
        by_number = {number: alone(plan, steps, kept, number) for number in range(-1, len(steps))}
        for at, row in enumerate(told):
            self.assertIs(type(row), tuple)
            self.assertTrue(all(type(one) is tuple and len(one) == 2 and type(one[0]) is int for one in row))
            self.assertTrue(all(is_liquor(one[1]) and one[1] != NOTHING for one in row))
            numbers = [one[0] for one in row]
            self.assertEqual(numbers, sorted(set(numbers)))
            self.assertTrue(all(-1 <= number <= at for number in numbers))
            self.assertEqual(makers.total([one[1] for one in row]), hearts[at])
            wanted = [(number, by_number[number][at]) for number in range(-1, at + 1)]
            self.assertEqual(list(row), [one for one in wanted if one[1] != NOTHING])
        return told

    def test_example(self):
        # Of 81 and 81 brought, half and a fifth are heart, 2/5 and 3/10 are kept.
        self.assertEqual(traced(PLAN, (STEP, STEP), liquor(10, 100)), (
            ((-1, liquor(5, 20)), (0, ((81, 2), (81, 5)))),
            ((-1, liquor(2, 6)), (0, ((81, 5), (243, 50))), (1, ((81, 2), (81, 5)))),
        ))

    def test_one_and_twenty_steps(self):
        for kept in (NOTHING, liquor(3, 4), liquor(9, 0), liquor(0, 9), ((1, 3), (2, 7)), ((makers.GREAT, 7), (1, 2))):
            told = self.check(PLAN, (STEP,) * 20, kept)
            self.assertEqual([len(row) - (kept != NOTHING) for row in told], list(range(1, 21)))
            self.assertEqual(self.check(PLAN, (STEP,), kept), told[:1])

    def test_nothing_kept_and_nothing_brought(self):
        self.assertEqual(self.check(PLAN, (((0, 0), (1, 2)),) * 3, NOTHING), ((), (), ()))
        self.assertEqual([len(row) for row in self.check(PLAN, (((0, 0), (1, 2)),) * 3, liquor(1, 0))], [1, 1, 1])

    def test_washes_of_spirit_alone_and_of_water_alone(self):
        steps = (((9, 0), (1, 2)), ((0, 9), (1, 2)), ((0, 0), (1, 2)), ((5, 0), (0, 1)))
        told = self.check(PLAN, steps, NOTHING)
        # The first row of the second still has no water: none of the water's WASH is in the last HEART.
        self.assertEqual([[one[0] for one in row] for row in told], [[0], [0, 1], [0, 1], [0, 3]])
        self.check(PLAN, steps, liquor(0, 5))

    def test_where_all_is_kept_and_where_nothing_is(self):
        step = ((5, 7), (0, 0))
        self.assertEqual(self.check(KEEPS, (step,) * 4, liquor(1, 1)), ((), (), (), ()))
        steps = (step, step, ((5, 7), (0, 2)), ((5, 7), (0, 2)))
        told = self.check(KEEPS, steps, liquor(1, 1))
        self.assertEqual(told, (
            (), (), ((-1, liquor(1, 1)), (0, liquor(5, 7)), (1, liquor(5, 7)), (2, liquor(5, 7))), ((3, liquor(5, 7)),),
        ))

    def test_of_dice(self):
        dice = random.Random(25)
        for _ in range(60):
            plan = makers.plan(dice)
            self.check(plan, makers.steps(dice, plan, dice.choice((1, 2, 3, 4, 9))), makers.liquor(dice))

    def test_so_many_steps(self):
        for many in (0, 1, 20, 21):
            told = outcome(traced, PLAN, (STEP,) * many, NOTHING)
            self.assertEqual(told[0] == "told", 1 <= many <= 20)

    def test_refusals(self):
        check_refusals(self, traced, (PLAN, (STEP, STEP), liquor(5, 6)), (
            (NoPlan, NO_PLANS), (NoStep, NO_STEPS + [(STEP,) * 21]), (NoLiquor, NO_LIQUORS),
        ))


class Ages(unittest.TestCase):
    def check(self, plan, step, many):
        told = ages(plan, (step,), many)
        self.assertEqual((type(told), len(told)), (tuple, 2))
        for part, row in enumerate(told):
            factor = Fraction(rounds.factor(plan, step, part), 100)
            if factor == 1 or rounds.brought(plan, step, part) == 0:
                self.assertIsNone(row)
                continue
            self.assertEqual((type(row), len(row)), (tuple, many + 1))
            self.assertTrue(all(is_fraction(one) for one in row))
            self.assertEqual(sum(makers.as_fraction(one) for one in row), 1)
            self.assertEqual([makers.as_fraction(one) for one in row[:-1]], self.by_walks(plan, step, part, many))
        return told

    def by_walks(self, plan, step, part, many):
        """The WASH alone, STEP for STEP without another: what is left of it in each CHARGE."""
        steady = rounds.long_run(plan, (step,))
        charge = steady[part] + Fraction(rounds.brought(plan, step, part), 100)
        found = []
        kept = NOTHING
        for ago in range(many):
            row = walk(plan, ((step[0] if ago == 0 else (0, 0), step[1]),), kept)[0]
            found.append(makers.as_fraction(row[0][part]) / charge)
            kept = row[2]
        return found

    def test_example(self):
        self.assertEqual(ages(PLAN, (STEP,), 2), (((3, 5), (6, 25), (4, 25)), ((7, 10), (21, 100), (9, 100))))

    def test_many_of_0_1_and_40(self):
        for many in (0, 1, 2, 39, 40):
            for step in (STEP, ((1, 9999), (0, 1)), ((9999, 1), (2, 3)), ((1, 1), (0, 3))):
                self.check(PLAN, step, many)
        self.assertEqual(ages(PLAN, (STEP,), 0), (((1, 1),), ((1, 1),)))

    def test_factor_0(self):
        self.assertEqual(self.check(KEEPS, ((5, 7), (0, 2)), 2), (((1, 1), (0, 1), (0, 1)),) * 2)
        self.assertEqual(self.check(KEEPS, ((5, 7), (0, 2)), 0), (((1, 1),), ((1, 1),)))

    def test_none_where_factor_is_1(self):
        self.assertEqual(self.check(KEEPS, ((5, 7), (0, 0)), 3), (None, None))
        half = (WHOLE, (((5, 10), (5, 0)), 0))
        self.assertEqual(self.check(half, ((5, 7), (1, 2)), 1), (((1, 2), (1, 2)), None))
        half = (WHOLE, (((10, 5), (0, 5)), 0))
        self.assertEqual(self.check(half, ((5, 7), (1, 2)), 1), (None, ((1, 2), (1, 2))))

    def test_none_where_none_is_brought(self):
        self.assertEqual(self.check(PLAN, ((0, 0), (1, 2)), 3), (None, None))
        self.assertEqual(self.check(PLAN, ((0, 5), (1, 2)), 1), (None, ((7, 10), (3, 10))))
        self.assertEqual(self.check(PLAN, ((5, 0), (1, 2)), 1), (((3, 5), (2, 5)), None))
        # The first still lets no water off.
        self.assertEqual(self.check(((((9, 0),), 1), PLAN[1]), ((5, 5), (1, 2)), 1), (((3, 5), (2, 5)), None))

    def test_of_dice(self):
        dice = random.Random(26)
        for _ in range(60):
            plan = makers.plan(dice)
            self.check(plan, makers.steps(dice, plan, 1)[0], dice.choice((0, 1, 2, 5, 40)))

    def test_more_than_one_step(self):
        for many in (0, 2, 3, 20):
            self.assertEqual(outcome(ages, PLAN, (STEP,) * many, 1), ("refused", NoStep))

    def test_refusals(self):
        check_refusals(self, ages, (PLAN, (STEP,), 3), (
            (NoPlan, NO_PLANS), (NoStep, NO_STEPS + [(STEP, STEP), (STEP,) * 3]), (NoCount, NO_AGES),
        ))
        none = (KEEPS, (((0, 0), (0, 0)),), 3)
        check_refusals(self, ages, none, ((NoPlan, [None]), (NoStep, [None]), (NoCount, NO_AGES)))
