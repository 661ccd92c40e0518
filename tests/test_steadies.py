import random
import unittest
from fractions import Fraction

from tests import makers, rounds
from tests.test_walks import NO_LIQUORS, NO_PLANS, NO_STEPS, PLAN, STEP
from tests.things import check_refusals, liquor, outcome, things
from twicerun.errors import NoFine, NoLiquor, NoPlan, NoStep
from twicerun.fractions import is_fraction
from twicerun.steadies import near, steady
from twicerun.walks import walk

NOTHING = makers.NOTHING
WHOLE = (((10, 10),), 0)
# The second still lets all spirit and all water off, the water in the first row alone.
KEEPS = (WHOLE, (((4, 10), (6, 0)), 0))
# Of spirit 9 of 10 are kept, of water all.
SLOW = (WHOLE, (((9, 10), (1, 0)), 0))
NO_ROUNDS = NO_STEPS + [(STEP,) * 4, (STEP,) * 20]
NO_FINES = things() + [0, 1000001, -1, True, "1", (1,), [1], (1, 1), 10 ** 100]
TOO_MUCH = [
    liquor(100000, 0), liquor(0, 100000), liquor(50000, 50000), ((199999, 2), (0, 1)), ((99999, 1), (1, 10 ** 99)),
    liquor(makers.GREAT, 0),
]


def as_fractions(kept):
    return tuple(makers.as_fraction(one) for one in kept)


class Steady(unittest.TestCase):
    def check(self, plan, steps, kept):
        told = steady(plan, steps)
        self.assertEqual((type(told), len(told)), (tuple, 2))
        later = as_fractions(walk(plan, steps, kept)[-1][2])
        for part, way in enumerate(told):
            self.assertIs(type(way), tuple)
            self.assertTrue(all(is_fraction(one) for one in way[1:]))
            factor = rounds.round_factor(plan, steps, part)
            added = as_fractions(walk(plan, steps, NOTHING)[-1][2])[part]
            ahead = makers.as_fraction(kept[part])
            if factor < 1:
                self.assertEqual((way[0], len(way)), ("comes", 2))
                goal = makers.as_fraction(way[1])
                self.assertEqual(later[part] - goal, factor * (ahead - goal))
            elif added > 0:
                self.assertEqual(way, ("grows", makers.as_pair(added)))
                self.assertEqual(later[part], ahead + added)
            else:
                self.assertEqual(way, ("stays",))
                self.assertEqual(later[part], ahead)
        return tuple(way[0] for way in told)

    def test_example(self):
        # Of spirit 2/5 and 162/5, of water 3/10 and 243/10: 162/5 by 3/5, 243/10 by 7/10.
        self.assertEqual(steady(PLAN, (STEP,)), (("comes", (54, 1)), ("comes", (243, 7))))
        self.assertEqual(walk(PLAN, (STEP,), ((54, 1), (243, 7)))[0][2], ((54, 1), (243, 7)))

    def test_comes_to_nothing(self):
        self.assertEqual(steady(PLAN, (((0, 0), (1, 2)),)), (("comes", (0, 1)), ("comes", (0, 1))))
        self.assertEqual(steady(PLAN, (((0, 7), (1, 2)),))[0], ("comes", (0, 1)))

    def test_factor_0(self):
        self.assertEqual(steady(KEEPS, (((5, 7), (0, 2)),)), (("comes", (0, 1)), ("comes", (0, 1))))
        # All is heart in the first STEP; what the second keeps is there again behind each ROUND.
        steps = (((5, 7), (0, 2)), ((3, 9), (2, 2)))
        self.assertEqual(steady(KEEPS, steps), (("comes", (3, 1)), ("comes", (9, 1))))

    def test_grows(self):
        self.assertEqual(steady(KEEPS, (((5, 7), (1, 1)),)), (("grows", (5, 1)), ("grows", (7, 1))))
        steps = (((5, 7), (1, 1)), ((0, 0), (0, 0)), ((1, 0), (2, 2)))
        self.assertEqual(steady(KEEPS, steps), (("grows", (6, 1)), ("grows", (7, 1))))
        thin = ((((1, 0),), 9), KEEPS[1])
        self.assertEqual(steady(thin, (((1, 9), (0, 0)),)), (("grows", (1, 100)), ("stays",)))

    def test_stays(self):
        self.assertEqual(steady(KEEPS, (((0, 0), (0, 0)),) * 3), (("stays",), ("stays",)))

    def test_spirit_of_one_kind_with_water_of_another(self):
        seen = {
            self.check(KEEPS, (((5, 7), cut),), liquor(3, 4)) for cut in ((0, 0), (0, 1), (1, 2), (0, 2))
        }
        seen |= {self.check(KEEPS, ((wash, cut),), liquor(3, 4)) for wash in ((0, 7), (5, 0), (0, 0))
                 for cut in ((0, 0), (0, 1), (1, 2))}
        seen |= {self.check(((plan[0][0], 0), (((10, 4), (0, 6)), 0)), ((wash, (1, 2)),), liquor(3, 4))
                 for plan in (KEEPS,) for wash in ((5, 7), (0, 7), (0, 0))}
        kinds = ("comes", "grows", "stays")
        self.assertEqual(seen, {(one, other) for one in kinds for other in kinds})

    def test_of_dice(self):
        dice = random.Random(21)
        for _ in range(200):
            plan = makers.plan(dice)
            steps = makers.steps(dice, plan, dice.choice((1, 2, 3)))
            self.check(plan, steps, makers.liquor(dice))

    def test_refusals(self):
        check_refusals(self, steady, (PLAN, (STEP,)), ((NoPlan, NO_PLANS), (NoStep, NO_ROUNDS)))


def is_near(plan, steps, kept, fine):
    goal = rounds.long_run(plan, steps)
    return all(
        rounds.round_factor(plan, steps, part) == 1 or abs(kept[part] - goal[part]) <= Fraction(1, fine)
        for part in (0, 1)
    )


class Near(unittest.TestCase):
    def check(self, plan, steps, kept, fine):
        told = near(plan, steps, kept, fine)
        if rounds.grows(plan, steps):
            self.assertIsNone(told)
            return None
        self.assertIs(type(told), int)
        self.assertGreaterEqual(told, 0)
        there = [as_fractions(kept)]
        there += [row[1] for row in rounds.run_rounds(plan, steps, there[0], told + 3)]
        found = [is_near(plan, steps, one, fine) for one in there]
        self.assertEqual(found, [False] * told + [True] * 4)
        return told

    def test_example(self):
        # From 0 to 54 it is 54, then 108/5, 216/25, ..; of water 243/7, 729/70, ..
        self.assertEqual(near(PLAN, (STEP,), NOTHING, 1), 5)
        self.assertEqual(near(PLAN, (STEP,), ((54, 1), (243, 7)), 1000000), 0)

    def test_nothing_steady_above_and_below(self):
        goal = ((54, 1), (243, 7))
        for kept in (NOTHING, goal, liquor(54, 0), liquor(0, 34), liquor(60, 40), liquor(50, 30), liquor(60, 30),
                     ((54 * 9 + 1, 9), (243, 7)), liquor(99999, 0), liquor(0, 99999), liquor(1, 99998)):
            for fine in (1, 2, 7, 1000, 999999, 1000000):
                told = self.check(PLAN, (STEP,), kept, fine)
                self.assertEqual(told == 0, is_near(PLAN, (STEP,), as_fractions(kept), fine))

    def test_just_so_far(self):
        for fine in (1, 2, 1000000):
            for spirit, water in ((1, 1), (-1, 0), (0, -1), (1, 0), (0, 1), (-1, -1)):
                goal = (Fraction(54), Fraction(243, 7))
                kept = (goal[0] + Fraction(spirit, fine), goal[1] + Fraction(water, fine))
                self.assertEqual(near(PLAN, (STEP,), tuple(map(makers.as_pair, kept)), fine), 0)
                kept = (kept[0] + Fraction(spirit, 10 ** 40), kept[1] + Fraction(water, 10 ** 40))
                self.assertEqual(near(PLAN, (STEP,), tuple(map(makers.as_pair, kept)), fine), 1)

    def test_factor_near_1(self):
        # Of 9999 washed 9 of 10 are kept: 89991 in the long run.
        step = ((9999, 0), (0, 1))
        plan = (WHOLE, (((1, 10), (9, 0)), 0))
        self.assertEqual(self.check(plan, (step,), NOTHING, 1000000), 240)
        self.assertEqual(self.check(plan, (step,), NOTHING, 1), 109)
        self.assertEqual(self.check(plan, (step,) * 3, liquor(0, 99999), 1000000), 80)
        self.assertEqual(self.check(plan, (((0, 0), (0, 1)),), liquor(99999, 0), 1000000), 241)
        slow = (step, ((9999, 0), (0, 0)), ((9999, 0), (0, 0)))
        self.assertGreater(self.check(plan, slow, NOTHING, 1000000), 240)

    def test_factor_0(self):
        self.assertEqual(self.check(KEEPS, (((5, 7), (0, 2)),), liquor(1, 1), 1), 0)
        self.assertEqual(self.check(KEEPS, (((5, 7), (0, 2)),), liquor(2, 1), 1), 1)
        self.assertEqual(self.check(KEEPS, (((5, 7), (0, 2)), ((3, 9), (2, 2))), liquor(50000, 49999), 1000000), 1)

    def test_what_stays_needs_none(self):
        self.assertEqual(self.check(KEEPS, (((0, 0), (0, 0)),), liquor(50000, 49999), 1000000), 0)
        plan = (WHOLE, (((5, 10), (5, 0)), 0))
        self.assertEqual(self.check(plan, (((8, 0), (1, 2)),), liquor(0, 99999), 8), 6)
        self.assertEqual(self.check(plan, (((8, 0), (1, 2)),), liquor(8, 99991), 1000000), 0)

    def test_none_where_one_grows(self):
        for step in (((1, 0), (0, 0)), ((0, 1), (0, 0)), ((9, 9), (1, 2)), ((0, 1), (1, 2))):
            for kept in (NOTHING, liquor(99999, 0), liquor(1, 1)):
                for fine in (1, 1000000):
                    self.assertIsNone(self.check(SLOW, (step,), kept, fine))

    def test_of_dice(self):
        dice = random.Random(22)
        for _ in range(60):
            plan = makers.plan(dice)
            steps = makers.steps(dice, plan, dice.choice((1, 2, 3)))
            spirit = Fraction(dice.randrange(10 ** 30), 10 ** dice.randrange(26, 31))
            kept = (makers.as_pair(spirit), dice.choice(((0, 1), (89999, 1), (1, 3))))
            self.check(plan, steps, kept, dice.choice((1, 10, 12345, 1000000)))

    def test_at_most_so_many_measures(self):
        for kept in (liquor(99999, 0), liquor(0, 99999), liquor(50000, 49999), ((199997, 2), (1, 2))):
            self.assertEqual(outcome(near, PLAN, (STEP,), kept, 1)[0], "told")
        for kept in TOO_MUCH:
            self.assertEqual(outcome(near, PLAN, (STEP,), kept, 1), ("refused", NoLiquor))

    def test_refusals(self):
        check_refusals(self, near, (PLAN, (STEP,), liquor(5, 6), 1000), (
            (NoPlan, NO_PLANS), (NoStep, NO_ROUNDS), (NoLiquor, NO_LIQUORS + TOO_MUCH), (NoFine, NO_FINES),
        ))

    def test_refusals_where_one_grows(self):
        check_refusals(self, near, (KEEPS, (((1, 1), (0, 0)),), NOTHING, 1), (
            (NoPlan, [None]), (NoStep, [None]), (NoLiquor, NO_LIQUORS + TOO_MUCH), (NoFine, NO_FINES),
        ))
