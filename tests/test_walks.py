import random
import unittest
from fractions import Fraction

from tests import makers
from tests.things import list_of, liquor, misspelt, outcome, things, told_and_unchanged
from twicerun.errors import NoLiquor, NoPlan, NoStep
from twicerun.liquors import is_liquor
from twicerun.walks import walk

NOTHING = makers.NOTHING
FIRST = (((9, 3),), 1)
SECOND = (((2, 0), (5, 2), (2, 3)), 0)
PLAN = (FIRST, SECOND)
STEP = ((100, 300), (1, 2))
NO_PLANS = things() + list(misspelt(PLAN)) + [
    list_of(PLAN), FIRST, (FIRST,), (FIRST, SECOND, SECOND), (FIRST, None), (None, SECOND), (FIRST, (SECOND[0], 10)),
    ((FIRST[0], 10), SECOND), ((((11, 0),), 0), SECOND), (FIRST, ((), 0)), (FIRST, (SECOND[0], True)), 1, [FIRST, SECOND],
]
NO_STEP = list(misspelt(STEP)) + things() + [
    ((10000, 0), (1, 2)), ((0, 10000), (1, 2)), ((-1, 0), (1, 2)), ((0, -1), (1, 2)), ((True, 0), (1, 2)),
    ((0, False), (1, 2)), ((1, 1), (2, 1)), ((1, 1), (0, 4)), ((1, 1), (-1, 1)), ((1, 1), (True, 2)), ((1, 1),),
    ((1, 1), (1, 2), (1, 2)), ((1, 1, 1), (1, 2)), ((1,), (1, 2)), [(1, 1), (1, 2)], ((1, 1), [1, 2]),
    ([1, 1], (1, 2)), (((1, 1), (1, 1)), (1, 2)), (None, (1, 2)), ((1, 1), None), ((10 ** 100, 0), (1, 2)),
]
NO_STEPS = things() + [STEP, [STEP], (), (STEP, None), (STEP, [STEP]), [], {0: STEP}] + [
    steps for wrong in NO_STEP for steps in ((wrong,), (STEP, wrong), (wrong, STEP))
]
NO_LIQUORS = things() + list(misspelt(liquor(1, 1))) + [1, (1, 1), liquor(-1, 0), liquor(0, -1), ((2, 4), (1, 1))]


def walked(plan, steps, kept):
    """The walk reckoned anew, straight from the document, row for row of the stills."""
    told = []
    kept = [Fraction(*one) for one in kept]
    for washed, cut in steps:
        rows = [[Fraction(0), Fraction(0)] for _ in range(5)]
        for part in (0, 1):
            kept[part] = walked_part(plan, washed[part], cut, kept[part], part, rows)
        told.append(tuple(tuple(makers.as_pair(one) for one in row) for row in rows))
    return tuple(told)


def walked_part(plan, washed, cut, kept, part, rows):
    charge, pot, lost = kept, Fraction(washed), Fraction(0)
    for row in plan[0][0]:
        off = Fraction(washed) * row[part] / 10
        pot, lost, charge = pot - off, lost + off * plan[0][1] / 10, charge + off * (10 - plan[0][1]) / 10
    heart, back = Fraction(0), Fraction(0)
    pot += charge
    for at, row in enumerate(plan[1][0]):
        off = charge * row[part] / 10
        pot, lost, less = pot - off, lost + off * plan[1][1] / 10, off * (10 - plan[1][1]) / 10
        if cut[0] <= at < cut[1]:
            heart += less
        else:
            back += less
    for at, one in enumerate((charge, heart, back, pot, lost)):
        rows[at][part] = one
    return back


class Walks(unittest.TestCase):
    def check(self, plan, steps, kept):
        told = walk(plan, steps, kept)
        self.assertEqual((type(told), len(told)), (tuple, len(steps)))
        self.assertEqual(told, walked(plan, steps, kept))
        for row in told:
            self.assertEqual((type(row), len(row)), (tuple, 5))
            self.assertTrue(all(is_liquor(one) for one in row))
        going_in = [kept] + [liquor(*wash) for wash, cut in steps]
        coming_out = [one for row in told for one in (row[1], row[3], row[4])] + [told[-1][2]]
        self.assertEqual(makers.total(going_in), makers.total(coming_out))

    def test_example(self):
        # 81 of 100 and 81 of 300 come off the first still, 9 and 9 are lost, 10 and 210 are in its pot.
        self.assertEqual(walk(PLAN, (STEP,), liquor(19, 19)), ((
            liquor(100, 100), liquor(50, 20), liquor(40, 30), liquor(10 + 10, 50 + 210), liquor(9, 9),
        ),))

    def test_lost_and_pot_are_of_both_runs(self):
        plan = ((((5, 5),), 1), (((8, 8),), 5))
        # Off 50, 5 lost, 45 to charge; of these 36 off, half of it lost, 9 in the pot.
        self.assertEqual(walk(plan, (((100, 100), (0, 1)),), NOTHING), ((
            liquor(45, 45), liquor(18, 18), NOTHING, liquor(59, 59), liquor(23, 23),
        ),))

    def test_one_and_twenty_steps(self):
        for kept in (NOTHING, liquor(3, 4), liquor(9, 0), liquor(0, 9), ((1, 3), (2, 7)), ((makers.GREAT, 7), (1, 2))):
            self.check(PLAN, (STEP,), kept)
            self.check(PLAN, (STEP,) * 20, kept)

    def test_washes_of_0_and_9999(self):
        for wash in ((0, 0), (9999, 9999), (0, 9999), (9999, 0), (1, 0)):
            for cut in ((0, 0), (0, 3), (3, 3), (1, 2)):
                self.check(PLAN, ((wash, cut), STEP), liquor(1, 1))

    def test_of_dice(self):
        dice = random.Random(14)
        for _ in range(120):
            plan = makers.plan(dice)
            self.check(plan, makers.steps(dice, plan, dice.choice((1, 2, 3, 7, 20))), makers.liquor(dice))

    def test_what_was_told_may_be_handed_in(self):
        steps = makers.steps(random.Random(15), PLAN, 6)
        whole = walk(PLAN, steps, NOTHING)
        front = walk(PLAN, steps[:2], NOTHING)
        self.assertEqual(front + walk(PLAN, steps[2:], front[-1][2]), whole)

    def test_the_cut_is_one_of_the_second_still(self):
        plan = (SECOND, FIRST)
        self.assertEqual(outcome(walk, plan, (((1, 1), (1, 2)),), NOTHING), ("refused", NoStep))
        self.assertEqual(outcome(walk, PLAN, (((1, 1), (1, 3)),), NOTHING)[0], "told")


class Refusals(unittest.TestCase):
    def test_plans(self):
        for wrong in NO_PLANS:
            for steps, kept in (((STEP,), NOTHING), (None, NOTHING), ((STEP,), None), ((), ())):
                self.assertEqual(told_and_unchanged(self, walk, wrong, steps, kept), ("refused", NoPlan))

    def test_steps(self):
        for wrong in NO_STEPS:
            for kept in (NOTHING, None, liquor(-1, 0)):
                self.assertEqual(told_and_unchanged(self, walk, PLAN, wrong, kept), ("refused", NoStep))

    def test_too_many_steps(self):
        self.assertEqual(outcome(walk, PLAN, (STEP,) * 21, NOTHING), ("refused", NoStep))
        self.assertEqual(outcome(walk, PLAN, (STEP,) * 20, NOTHING)[0], "told")
        self.assertEqual(outcome(walk, PLAN, (), NOTHING), ("refused", NoStep))

    def test_a_wrong_step_amid_and_last(self):
        for wrong in (((1, 10000), (1, 2)), ((1, 1), (2, 1))):
            for at in (0, 9, 19):
                steps = (STEP,) * at + (wrong,) + (STEP,) * (19 - at)
                self.assertEqual(outcome(walk, PLAN, steps, NOTHING), ("refused", NoStep))

    def test_kept(self):
        for wrong in NO_LIQUORS:
            self.assertEqual(told_and_unchanged(self, walk, PLAN, (STEP,), wrong), ("refused", NoLiquor))

    def test_a_refusal_changes_nothing_later(self):
        before = walk(PLAN, (STEP, STEP), liquor(5, 6))
        for arguments in ((None, (STEP,), NOTHING), (PLAN, (STEP, None), NOTHING), (PLAN, (STEP,), None)):
            self.assertEqual(outcome(walk, *arguments)[0], "refused")
            self.assertEqual(walk(PLAN, (STEP, STEP), liquor(5, 6)), before)
