import random
import unittest

from tests import makers, rounds
from tests.test_steadies import KEEPS, NO_ROUNDS, WHOLE
from tests.test_walks import NO_PLANS, PLAN, STEP
from tests.things import check_refusals, outcome, things
from twicerun.errors import NoCap, NoPlan, NoStep
from twicerun.floods import most_wash, overflow

NEVER = ("never",)
LATER = ("later",)
# Of spirit half is kept, of water all: the first row is heads.
HALF = (WHOLE, (((5, 10), (5, 0)), 0))
NO_CAPS = things() + [0, 100000, -1, True, False, "1", (1,), [1], (1, 1), 10 ** 100]


def flooded(plan, steps, cap):
    """What overflow must tell, by running 400 ROUNDs and, if need be, by the long run."""
    found = rounds.first_over(plan, steps, cap, 400)
    if found is not None:
        return ("over", *found)
    if rounds.grows(plan, steps) or rounds.greatest(plan, steps) > cap:
        return LATER
    return NEVER


def so_many_times(steps, many):
    return tuple(((wash[0] * many, wash[1] * many), cut) for wash, cut in steps)


def just_caps(plan, steps):
    """CAPs near to what comes of it."""
    if rounds.grows(plan, steps):
        return [3, 700]
    most = rounds.greatest(plan, steps)
    return [cap for cap in (most // 1 - 1, most // 1, most // 1 + 1) if 1 <= cap <= 99999]


class Overflow(unittest.TestCase):
    def check(self, plan, steps, cap):
        told = overflow(plan, steps, cap)
        self.assertIs(type(told), tuple)
        self.assertEqual(told, flooded(plan, steps, cap), (plan, steps, cap))
        return told

    def test_example(self):
        # 81 and 81 are brought; 162, 218.7, .. are charged, in the long run 135 and 810/7.
        told = [self.check(PLAN, (STEP,), cap) for cap in (161, 162, 218, 219, 250, 251)]
        self.assertEqual(told[:4], [("over", 0, 0), ("over", 1, 0), ("over", 1, 0), ("over", 2, 0)])
        self.assertEqual(told[4:], [("over", 5, 0), NEVER])

    def test_which_step_of_the_round(self):
        wash, more = ((10, 10), (0, 0)), ((30, 30), (0, 0))
        for steps, number in (((more, wash, wash), 0), ((wash, more, wash), 1), ((wash, wash, more), 2)):
            told = self.check((WHOLE, (((5, 5), (5, 5)), 9)), steps, 60)
            self.assertEqual(told, ("over", 0 if number else 1, number))

    def test_each_step_may_be_the_first_in_a_later_round(self):
        steps = (((1, 0), (0, 0)),) * 3
        for cap in range(1, 10):
            self.assertEqual(self.check(KEEPS, steps, cap), ("over", cap // 3, cap - 3 * (cap // 3)))

    def test_just_cap_is_no_overflow(self):
        self.assertEqual(self.check(KEEPS, (((5, 7), (0, 2)),), 12), NEVER)
        self.assertEqual(self.check(KEEPS, (((5, 7), (0, 2)),), 11), ("over", 0, 0))
        self.assertEqual(self.check(KEEPS, (((5, 7), (0, 0)),), 12), ("over", 1, 0))

    def test_never_where_it_comes_nearer_to_cap(self):
        # 8 and half of what was: nearer and nearer to 16.
        self.assertEqual(self.check(HALF, (((8, 0), (1, 2)),), 16), NEVER)
        self.assertEqual(self.check(HALF, (((8, 0), (1, 2)),), 15), ("over", 4, 0))

    def test_never_where_nothing_is_brought(self):
        for cap in (1, 99999):
            for cut in ((0, 0), (1, 1), (0, 2), (1, 2)):
                self.assertEqual(self.check(KEEPS, (((0, 0), cut),), cap), NEVER)
            none = ((((0, 0),), 0), KEEPS[1])
            self.assertEqual(self.check(none, (((9999, 9999), (0, 0)),), cap), NEVER)

    def test_the_last_round_that_counts(self):
        for steps, cap, told in (
            ((((1, 0), (0, 0)),), 399, ("over", 399, 0)), ((((1, 0), (0, 0)),), 400, LATER),
            ((((1, 0), (0, 0)),), 398, ("over", 398, 0)), ((((0, 250), (0, 0)),), 99999, ("over", 399, 0)),
            ((((0, 249), (0, 0)),), 99999, LATER),
            ((((1, 0), (0, 0)),) * 3, 1199, ("over", 399, 2)), ((((1, 0), (0, 0)),) * 3, 1200, LATER),
            ((((1, 0), (0, 0)),) * 3, 1198, ("over", 399, 1)), ((((1, 0), (0, 0)),) * 3, 1197, ("over", 399, 0)),
            ((((1, 0), (0, 0)),) * 3, 1196, ("over", 398, 2)),
        ):
            self.assertEqual(self.check(KEEPS, steps, cap), told)

    def test_grows_slowly(self):
        thin = ((((1, 0),), 9), KEEPS[1])
        self.assertEqual(self.check(thin, (((1, 9999), (0, 0)),), 1), ("over", 100, 0))
        self.assertEqual(self.check(thin, (((1, 9999), (0, 0)),), 4), LATER)
        self.assertEqual(self.check(thin, (((1, 9999), (0, 0)),), 99999), LATER)

    def test_one_grows_while_the_other_is_less(self):
        # Water is kept all and grows by 1, spirit falls from STEP to STEP, its charge of 64 coming to 128.
        steps = (((64, 1), (1, 2)), ((0, 0), (1, 2)), ((0, 0), (1, 2)))
        for cap in (64, 65, 66, 73, 74, 80, 200, 472, 473):
            self.check(HALF, steps, cap)
        other = (WHOLE, (((10, 5), (0, 5)), 0))
        steps = (((0, 9999), (1, 2)), ((1, 0), (1, 2)))
        for cap in (9998, 9999, 13331, 13332, 13333, 13731, 13732, 99999):
            self.check(other, steps, cap)

    def test_many_rounds_though_it_comes(self):
        # Of spirit 9 of 10 are kept: in the long run 100 are charged, and of water 10/7.
        plan = (WHOLE, (((9, 3), (1, 3)), 0))
        self.assertEqual(self.check(plan, (((10, 0), (1, 2)),), 100), NEVER)
        self.assertEqual(self.check(plan, (((10, 0), (1, 2)),), 99), ("over", 43, 0))
        self.assertEqual(self.check(plan, (((10, 1), (1, 2)),), 101), ("over", 51, 0))
        self.assertEqual(self.check(plan, (((9999, 1), (1, 2)),), 99991), ("over", 117, 0))

    def test_of_dice(self):
        dice = random.Random(23)
        seen = {}
        for _ in range(70):
            plan = makers.plan(dice)
            if dice.randrange(2):
                plan = ((plan[0][0], 0), (plan[1][0], 0))
            steps = makers.steps(dice, plan, dice.choice((1, 2, 3)))
            for cap in just_caps(plan, steps) + [1, 99999, dice.randrange(1, 100000)]:
                told = self.check(plan, steps, cap)
                seen[told[0]] = seen.get(told[0], 0) + 1
        self.assertGreater(min(seen["over"], seen["never"]), 50)

    def test_cap_1_and_99999(self):
        for cap in (1, 99999):
            self.assertEqual(outcome(overflow, PLAN, (STEP,), cap)[0], "told")
            self.assertEqual(outcome(most_wash, PLAN, (STEP,), cap)[0], "told")

    def test_refusals(self):
        for call in (overflow, most_wash):
            for right in ((PLAN, (STEP,), 7), (KEEPS, (((1, 1), (0, 0)),), 7), (KEEPS, (((0, 0), (0, 0)),), 7)):
                check_refusals(self, call, right, ((NoPlan, [None]), (NoStep, [None]), (NoCap, NO_CAPS)))
            check_refusals(self, call, (PLAN, (STEP,), 7), ((NoPlan, NO_PLANS), (NoStep, NO_ROUNDS)))


class MostWash(unittest.TestCase):
    def check(self, plan, steps, cap):
        told = most_wash(plan, steps, cap)
        if rounds.grows(plan, steps):
            self.assertEqual((type(told), told), (int, 0))
            return told
        most = rounds.greatest(plan, steps)
        if most == 0:
            self.assertIsNone(told)
            return told
        self.assertIs(type(told), int)
        self.assertGreaterEqual(told, 0)
        self.assertTrue(told * most <= cap < (told + 1) * most)
        for many in (told, told + 1):
            greater = so_many_times(steps, many)
            if all(max(wash) <= 9999 for wash, cut in greater):
                self.assertEqual(overflow(plan, greater, cap) == NEVER, many == told)
        return told

    def test_example(self):
        # 135 and 810/7 measures in the long run: 1755/7.
        self.assertEqual([self.check(PLAN, (STEP,), cap) for cap in (250, 251, 501, 502, 2507, 2508)],
                         [0, 1, 1, 2, 9, 10])
        self.assertEqual(self.check(HALF, (((8, 0), (1, 2)),), 16), 1)
        self.assertEqual(self.check(HALF, (((8, 0), (1, 2)),), 31), 1)
        self.assertEqual(self.check(HALF, (((8, 0), (1, 2)),), 32), 2)

    def test_however_great_they_get(self):
        thin = ((((1, 0),), 9), (((10, 10),), 0))
        self.assertEqual(self.check(thin, (((1, 9999), (0, 1)),), 99999), 9999900)

    def test_the_greatest_step_counts(self):
        for steps in ((((1, 1), (0, 2)), ((5, 7), (0, 2)), ((3, 3), (0, 2))),
                      (((5, 7), (0, 2)), ((1, 1), (0, 2)), ((3, 3), (0, 2))),
                      (((1, 1), (0, 2)), ((3, 3), (0, 2)), ((5, 7), (0, 2)))):
            self.assertEqual([self.check(KEEPS, steps, cap) for cap in (11, 12, 23, 24, 99999)], [0, 1, 1, 2, 8333])

    def test_0_where_a_part_grows(self):
        for steps in ((((1, 0), (0, 0)),), (((0, 1), (0, 0)),), (((0, 1), (1, 2)),),
                      (((0, 0), (0, 0)), ((1, 1), (1, 1)))):
            for cap in (1, 99999):
                self.assertEqual(self.check(KEEPS, steps, cap), 0)

    def test_none_where_any_may(self):
        for cap in (1, 99999):
            self.assertIsNone(self.check(KEEPS, (((0, 0), (0, 0)),), cap))
            self.assertIsNone(self.check(KEEPS, (((0, 0), (0, 2)),) * 3, cap))
            self.assertIsNone(self.check(((((0, 0),), 0), KEEPS[1]), (((9999, 9999), (0, 0)),), cap))
            self.assertIsNone(self.check(((((10, 0),), 0), KEEPS[1]), (((0, 9999), (0, 0)),), cap))

    def test_of_dice(self):
        dice = random.Random(24)
        for _ in range(150):
            plan = makers.plan(dice)
            steps = tuple(((dice.randrange(9), dice.randrange(9)), makers.cut(dice, plan[1]))
                          for _ in range(dice.choice((1, 2, 3))))
            for cap in [1, 99999, dice.randrange(1, 2000)]:
                self.check(plan, steps, cap)
