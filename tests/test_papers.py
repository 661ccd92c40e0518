import random
import unittest

from tests import makers, rounds
from tests.test_checker import EIGHT, ONES
from tests.test_floods import HALF, LATER, NEVER, NO_CAPS, flooded, just_caps
from tests.test_steadies import KEEPS, NO_ROUNDS
from tests.test_stills import wrong_stills
from tests.test_takings import CHARGE, CHARGES, NO_HEADS, NO_STRENGTHS, RISING, STILL, dice_questions
from tests.test_walks import NO_LIQUORS, NO_PLANS, PLAN, STEP
from tests.things import check_refusals, liquor, outcome
from twicerun.checker import holds
from twicerun.errors import NoCap, NoHeads, NoLiquor, NoPlan, NoStep, NoStill, NoStrength
from twicerun.floods import overflow
from twicerun.papers import paper_most, paper_overflow, paper_steady
from twicerun.steadies import steady
from twicerun.takings import most

NOTHING = makers.NOTHING


def dice_rounds(seed, many):
    dice = random.Random(seed)
    for _ in range(many):
        plan = makers.plan(dice)
        if dice.randrange(3) == 0:
            plan = ((plan[0][0], 0), (plan[1][0], 0))
        yield dice, plan, makers.steps(dice, plan, dice.choice((1, 2, 3)))


class Papers(unittest.TestCase):
    def check(self, call, *question):
        """What is told: a claim of this question with a paper that the checker takes, or None."""
        told = call(*question)
        if told is not None:
            self.assertEqual((type(told), len(told)), (tuple, 2))
            claim, paper = told
            self.assertEqual(claim[1:len(question) + 1], question)
            self.assertIs(holds(claim, paper), True)
        self.assertEqual(call(*question), told)
        return told


class Most(Papers):
    def test_example(self):
        told = self.check(paper_most, STILL, CHARGE, 0, 50)
        self.assertEqual(told, (("most", STILL, CHARGE, 0, 50, (342, 7)), (((1, 1), (1, 1), (3, 7)), (1, 350))))

    def test_charges_heads_and_strengths(self):
        for still in (STILL, RISING):
            for charge in CHARGES:
                for heads in range(len(still[0]) + 1):
                    for strength in (0, 1, 40, 50, 60, 99, 100):
                        claim = self.check(paper_most, still, charge, heads, strength)[0]
                        self.assertEqual((claim[0], len(claim)), ("most", 6))
                        self.assertEqual(claim[5], most(still, charge, heads, strength)[0])

    def test_of_dice(self):
        for question in dice_questions(random.Random(65), 200):
            self.check(paper_most, *question)

    def test_refusals(self):
        check_refusals(self, paper_most, (STILL, CHARGE, 1, 50), (
            (NoStill, wrong_stills()), (NoLiquor, NO_LIQUORS), (NoHeads, NO_HEADS), (NoStrength, NO_STRENGTHS),
        ))


class Overflow(Papers):
    def check_overflow(self, plan, steps, cap):
        told = self.check(paper_overflow, plan, steps, cap)
        wanted = flooded(plan, steps, cap)
        self.assertEqual(overflow(plan, steps, cap), wanted)
        if wanted == LATER:
            self.assertIsNone(told)
        else:
            claim, paper = told
            self.assertEqual(claim, (wanted[0], plan, steps, cap) + wanted[1:])
            self.assertEqual(paper is None, wanted[0] == "over")
        return told

    def test_over(self):
        self.assertEqual(self.check_overflow(PLAN, (STEP,), 218), (("over", PLAN, (STEP,), 218, 1, 0), None))
        self.assertEqual(self.check_overflow(KEEPS, ONES, 1199), (("over", KEEPS, ONES, 1199, 399, 2), None))
        self.assertEqual(self.check_overflow(KEEPS, ONES, 1), (("over", KEEPS, ONES, 1, 0, 1), None))

    def test_never(self):
        for plan, steps, cap in ((PLAN, (STEP,), 251), (HALF, EIGHT, 16), (HALF, EIGHT * 3, 16),
                                 (KEEPS, (((5, 7), (0, 2)),), 12), (KEEPS, (((0, 0), (0, 0)),), 1)):
            self.assertEqual(self.check_overflow(plan, steps, cap)[0], ("never", plan, steps, cap))

    def test_none_where_it_is_later(self):
        self.assertIsNone(self.check_overflow(KEEPS, ONES, 1200))
        self.assertIsNone(self.check_overflow(KEEPS, ONES, 99999))
        self.assertIsNone(self.check_overflow(KEEPS, (((0, 249), (0, 0)),), 99999))

    def test_of_dice(self):
        seen = {}
        for dice, plan, steps in dice_rounds(66, 50):
            for cap in [int(cap) for cap in just_caps(plan, steps)] + [1, 99999, dice.randrange(1, 100000)]:
                told = self.check_overflow(plan, steps, cap)
                word = "later" if told is None else told[0][0]
                seen[word] = seen.get(word, 0) + 1
        self.assertGreater(min(seen["over"], seen["never"]), 40)

    def test_refusals(self):
        for right in ((PLAN, (STEP,), 7), (PLAN, (STEP,), 9999), (KEEPS, ONES, 99999)):
            check_refusals(self, paper_overflow, right, ((NoPlan, [None]), (NoStep, [None]), (NoCap, NO_CAPS)))
        check_refusals(self, paper_overflow, (PLAN, (STEP,), 7), ((NoPlan, NO_PLANS), (NoStep, NO_ROUNDS)))


class Steady(Papers):
    def test_example(self):
        told = self.check(paper_steady, PLAN, (STEP,))
        self.assertEqual(told, (("steady", PLAN, (STEP,), ((54, 1), (243, 7))), None))

    def test_what_stays_is_0(self):
        self.assertEqual(self.check(paper_steady, HALF, EIGHT)[0][3], liquor(8, 0))
        self.assertEqual(self.check(paper_steady, KEEPS, (((0, 0), (0, 0)),)),
                         (("steady", KEEPS, (((0, 0), (0, 0)),), NOTHING), None))

    def test_none_where_a_part_grows(self):
        for steps in ((((1, 0), (0, 0)),), (((0, 1), (0, 0)),), (((0, 1), (1, 2)),), ONES,
                      (((0, 0), (0, 0)), ((1, 1), (1, 1)))):
            self.assertIsNone(self.check(paper_steady, KEEPS, steps))

    def test_of_dice(self):
        seen = {True: 0, False: 0}
        for dice, plan, steps in dice_rounds(67, 200):
            told = self.check(paper_steady, plan, steps)
            self.assertEqual(told is None, rounds.grows(plan, steps))
            seen[told is None] += 1
            if told is not None:
                wanted = tuple(makers.as_pair(one) for one in rounds.long_run(plan, steps))
                self.assertEqual(told, (("steady", plan, steps, wanted), None))
                for way, part in zip(steady(plan, steps), wanted):
                    self.assertIn(way, (("comes", part), ("stays",)))
        self.assertGreater(min(seen.values()), 3)

    def test_refusals(self):
        for right in ((PLAN, (STEP,)), (KEEPS, ONES)):
            check_refusals(self, paper_steady, right, ((NoPlan, NO_PLANS), (NoStep, [None])))
        check_refusals(self, paper_steady, (PLAN, (STEP,)), ((NoPlan, []), (NoStep, NO_ROUNDS)))


class Words(unittest.TestCase):
    def test_a_claim_that_is_not_so_is_not_taken_with_the_paper(self):
        claim, paper = paper_most(STILL, CHARGE, 0, 50)
        self.assertIs(holds(claim[:5] + ((343, 7),), paper), False)
        claim, paper = paper_overflow(PLAN, (STEP,), 251)
        self.assertIs(holds(claim[:3] + (250,), paper), False)
        self.assertEqual(outcome(overflow, PLAN, (STEP,), 251), ("told", NEVER))
