import random
import unittest

from tests import makers
from tests.test_walks import NO_LIQUORS, NO_PLANS, NO_STEPS, PLAN, STEP
from tests.things import liquor, outcome, things, told_and_unchanged
from twicerun.errors import NoCount, NoLiquor, NoPlan, NoStep
from twicerun.fractions import is_fraction
from twicerun.liquors import is_liquor
from twicerun.loops import behind, loop
from twicerun.walks import walk

NOTHING = makers.NOTHING
# Of each row the second still keeps back all that it is charged with.
KEEPS_ALL = ((((10, 10),), 0), (((4, 10), (6, 0)), 0))
ALL_KEPT = ((5, 7), (1, 1))
NO_COUNTS = things() + [401, 1000, -1, True, False, "1", (1,), [1], 10 ** 100]


def kept_behind(plan, steps, kept, many):
    for _ in range(many):
        kept = walk(plan, steps, kept)[-1][2]
    return kept


class Loops(unittest.TestCase):
    def test_example(self):
        # Heads and tails keep 4 of 10 of the spirit and 3 of 10 of the water; 81 and 81 come from the first still.
        self.assertEqual(loop(PLAN, (STEP,)), (((2, 5), (162, 5)), ((3, 10), (243, 10))))
        self.assertEqual(loop(PLAN, (STEP, STEP)), (((4, 25), (1134, 25)), ((9, 100), (3159, 100))))

    def check(self, plan, steps, kept):
        told = loop(plan, steps)
        self.assertEqual((type(told), len(told)), (tuple, 2))
        for part, change in enumerate(told):
            self.assertEqual((type(change), len(change)), (tuple, 2))
            self.assertTrue(all(is_fraction(one) for one in change))
            factor, added = [makers.as_fraction(one) for one in change]
            self.assertTrue(0 <= factor <= 1 and added >= 0)
            wanted = makers.as_fraction(walk(plan, steps, kept)[-1][2][part])
            self.assertEqual(factor * makers.as_fraction(kept[part]) + added, wanted)

    def test_of_dice(self):
        dice = random.Random(16)
        for _ in range(200):
            plan = makers.plan(dice)
            steps = makers.steps(dice, plan, dice.choice((1, 2, 3)))
            for kept in (NOTHING, liquor(1, 1), makers.liquor(dice)):
                self.check(plan, steps, kept)

    def test_factor_1_where_all_is_kept(self):
        self.assertEqual(loop(KEEPS_ALL, (ALL_KEPT,)), (((1, 1), (5, 1)), ((1, 1), (7, 1))))
        self.assertEqual(loop(KEEPS_ALL, (ALL_KEPT,) * 3), (((1, 1), (15, 1)), ((1, 1), (21, 1))))
        self.assertEqual(loop(KEEPS_ALL, (((0, 0), (2, 2)),)), (((1, 1), (0, 1)), ((1, 1), (0, 1))))

    def test_factor_0_where_all_is_heart(self):
        self.assertEqual(loop(KEEPS_ALL, (((5, 7), (0, 2)),)), (((0, 1), (0, 1)), ((0, 1), (0, 1))))

    def test_the_order_of_the_steps_counts(self):
        steps = (((100, 0), (0, 0)), ((0, 100), (1, 2)))
        self.assertNotEqual(loop(PLAN, steps), loop(PLAN, steps[::-1]))
        for row in (steps, steps[::-1]):
            self.check(PLAN, row, liquor(3, 5))


class Behind(unittest.TestCase):
    def test_example(self):
        self.assertEqual(behind(PLAN, (STEP,), liquor(19, 19), 1), liquor(40, 30))
        self.assertEqual(behind(PLAN, (STEP,), liquor(19, 19), 0), liquor(19, 19))

    def check(self, plan, steps, kept, many):
        told = behind(plan, steps, kept, many)
        self.assertIs(is_liquor(told), True)
        self.assertEqual(told, kept_behind(plan, steps, kept, many))

    def test_against_walks_one_by_one(self):
        dice = random.Random(17)
        for _ in range(60):
            plan = makers.plan(dice)
            steps = makers.steps(dice, plan, dice.choice((1, 2, 3)))
            for many in (0, 1, 2, 3, dice.randrange(4, 20)):
                self.check(plan, steps, makers.liquor(dice), many)

    def test_four_hundred_rounds(self):
        for kept in (NOTHING, liquor(3, 4), ((1, 3), (2, 7))):
            self.check(PLAN, (STEP,), kept, 400)
        self.check(PLAN, (STEP, ((9999, 0), (0, 1))), liquor(1, 2), 399)
        self.check(KEEPS_ALL, (ALL_KEPT, ((0, 9999), (1, 1)), ALL_KEPT), ((1, 3), (2, 7)), 400)

    def test_factor_1_where_all_is_kept(self):
        self.assertEqual(behind(KEEPS_ALL, (ALL_KEPT,), ((1, 3), (2, 1)), 400), ((6001, 3), (2802, 1)))
        self.assertEqual(behind(KEEPS_ALL, (((0, 0), (2, 2)),), ((1, 3), (2, 1)), 400), ((1, 3), (2, 1)))

    def test_rounds_may_be_parted(self):
        once = behind(PLAN, (STEP,), liquor(5, 5), 130)
        self.assertEqual(behind(PLAN, (STEP,), once, 270), behind(PLAN, (STEP,), liquor(5, 5), 400))


class Refusals(unittest.TestCase):
    def test_plans(self):
        for wrong in NO_PLANS:
            for steps in ((STEP,), None, (), (STEP,) * 4):
                self.assertEqual(told_and_unchanged(self, loop, wrong, steps), ("refused", NoPlan))
                for kept, many in ((NOTHING, 1), (None, 1), (NOTHING, 401), (None, None)):
                    told = told_and_unchanged(self, behind, wrong, steps, kept, many)
                    self.assertEqual(told, ("refused", NoPlan))

    def test_rounds(self):
        for wrong in NO_STEPS + [(STEP,) * 4, (STEP,) * 20]:
            self.assertEqual(told_and_unchanged(self, loop, PLAN, wrong), ("refused", NoStep))
            for kept, many in ((NOTHING, 1), (None, 1), (NOTHING, 401), (None, None)):
                told = told_and_unchanged(self, behind, PLAN, wrong, kept, many)
                self.assertEqual(told, ("refused", NoStep))

    def test_one_to_three_steps(self):
        for many in range(6):
            told = outcome(loop, PLAN, (STEP,) * many)
            self.assertEqual(told[0] == "told", 1 <= many <= 3)
            self.assertEqual(outcome(behind, PLAN, (STEP,) * many, NOTHING, 2)[0], told[0])

    def test_kept(self):
        for wrong in NO_LIQUORS:
            for many in (1, 401, None):
                told = told_and_unchanged(self, behind, PLAN, (STEP,), wrong, many)
                self.assertEqual(told, ("refused", NoLiquor))

    def test_many(self):
        for wrong in NO_COUNTS:
            told = told_and_unchanged(self, behind, PLAN, (STEP,), NOTHING, wrong)
            self.assertEqual(told, ("refused", NoCount))

    def test_a_refusal_changes_nothing_later(self):
        before = behind(PLAN, (STEP,), liquor(5, 6), 7)
        for arguments in ((None, (STEP,), NOTHING, 7), (PLAN, (STEP, None), NOTHING, 7), (PLAN, (STEP,), None, 7),
                          (PLAN, (STEP,), NOTHING, 401)):
            self.assertEqual(outcome(behind, *arguments)[0], "refused")
            self.assertEqual(behind(PLAN, (STEP,), liquor(5, 6), 7), before)
