import ast
import pathlib
import random
import unittest
from unittest import mock

from tests import makers, rounds
from tests.test_floods import HALF, NO_CAPS, just_caps
from tests.test_steadies import KEEPS, NO_ROUNDS, WHOLE
from tests.test_stills import wrong_stills
from tests.test_takings import (
    CHARGE, NO_HEADS, NO_STRENGTHS, NO_WEIGHTS, STILL, ceiling_by_hand, dice_questions, heart_of, rows_off, spared,
)
from tests.test_walks import NO_LIQUORS, NO_PLANS, PLAN, STEP
from tests.things import liquor, list_of, misspelt, things, told_and_unchanged, whole
from twicerun.checker import holds
from twicerun.takings import ceiling, most

NOTHING = makers.NOTHING
MOST = ("most", STILL, CHARGE, 0, 50, (342, 7))
TAKING = ((1, 1), (1, 1), (3, 7))
TAKEN = (TAKING, (1, 350))
# 8 and half of what was kept are charged: where 8 are kept 16 are.
EIGHT = (((8, 0), (1, 2)),)
NEVER = ("never", HALF, EIGHT, 16)
ONES = (((1, 0), (0, 0)),) * 3
OVER = ("over", KEEPS, ONES, 7, 2, 1)
STEADY = ("steady", HALF, EIGHT, liquor(8, 0))
# Each right claim with its paper.
RIGHT = ((MOST, TAKEN), (NEVER, liquor(8, 0)), (OVER, None), (STEADY, None))


def changed(claim, at, other):
    return claim[:at] + (other,) + claim[at + 1:]


class Checking(unittest.TestCase):
    def check(self, wanted, claim, paper):
        told = told_and_unchanged(self, holds, claim, paper)
        self.assertEqual(told, ("told", wanted), (claim, paper))
        self.assertIs(told[1], wanted)

    def check_places(self, claim, paper, places):
        """By place of the claim: what may stand there with this paper, and what may not."""
        for at, (right, wrong) in places.items():
            for other in right:
                self.check(True, changed(claim, at, other), paper)
            for other in wrong:
                self.check(False, changed(claim, at, other), paper)


class Anything(Checking):
    def test_right_ones(self):
        for claim, paper in RIGHT:
            self.check(True, claim, paper)

    def test_written_otherwise(self):
        for claim, paper in RIGHT:
            self.check(False, list_of(claim), paper)
            for other in misspelt(claim):
                self.check(False, other, paper)
            for other in misspelt(paper):
                self.check(False, claim, other)

    def test_parts_more_or_less(self):
        for claim, paper in RIGHT:
            for other in (claim + (None,), claim[:-1], claim[1:], (claim,), (claim, paper), claim[:1], claim + claim[-1:]):
                self.check(False, other, paper)

    def test_another_word(self):
        words = ("most", "never", "over", "steady", "later", "grows", "", "Most", "nevers", b"over", 0, None, True,
                 ("most",), ["most"], {}, set(), mock.ANY)
        for claim, paper in RIGHT:
            for word in words:
                if word != claim[0] or word is mock.ANY:
                    self.check(False, changed(claim, 0, word), paper)

    def test_things_of_any_kind(self):
        for thing in things() + [0, mock.ANY]:
            for other in things():
                self.check(False, thing, other)
            for claim, paper in RIGHT:
                self.check(False, thing, paper)
                if thing is not None:
                    self.check(False, claim, thing)
                for at in range(len(claim)):
                    if (claim[0], at, thing) not in (("most", 3, 0), ("most", 4, 0)):
                        self.check(False, changed(claim, at, thing), paper)

    def test_papers_of_other_claims(self):
        for claim, right in RIGHT:
            for other, paper in RIGHT:
                if paper != right:
                    self.check(False, claim, paper)

    def test_no_paper_is_none(self):
        for claim in (OVER, STEADY):
            for paper in ((), 0, False, "", [], {}, NOTHING, (None,), "None", b""):
                self.check(False, claim, paper)

    def test_it_imports_the_first_three_stages_alone(self):
        package = pathlib.Path(__file__).resolve().parent.parent / "twicerun"
        seen, due = set(), ["checker"]
        while due:
            tree = ast.parse((package / (due.pop() + ".py")).read_text())
            for node in ast.walk(tree):
                if isinstance(node, ast.ImportFrom):
                    name = node.module.partition(".")[2]
                    if name not in seen:
                        seen.add(name)
                        due.append(name)
        self.assertLessEqual(seen, {"errors", "fractions", "liquors", "stills", "runs"})


class Most(Checking):
    def test_forms_of_its_parts(self):
        self.check_places(MOST, TAKEN, {
            1: ([STILL], wrong_stills()), 2: ([CHARGE], NO_LIQUORS), 3: ([0], NO_HEADS), 4: ([50], NO_STRENGTHS),
            5: ([(342, 7)], things() + [(684, 14), [342, 7], (342, 7, 1), 342, (-342, -7), (343, 7), (341, 7)]),
        })
        for weight in NO_WEIGHTS + [(2, 700), [1, 350], (1, 350, 1), (-1, 350), 350]:
            self.check(False, MOST, (TAKING, weight))

    def test_heads_just_within_and_beyond(self):
        none = ((0, 1),) * 3
        for heads in range(-2, 6):
            for taking in (none, ((0, 1), (0, 1), (1, 1)), none[:2], none + none[:1]):
                is_so = heads == 3 and taking == none
                self.check(is_so, ("most", STILL, CHARGE, heads, 50, (0, 1)), (taking, (0, 1)))
        # Python would take a number below 0 as one from the end.
        for heads in (2, -1):
            self.check(heads == 2, ("most", STILL, CHARGE, heads, 0, whole(9)), (none[:2] + ((1, 1),), (0, 1)))

    def test_strength_just_within_and_beyond(self):
        # Nothing but spirit runs off: strong enough for whatever there is.
        spirit = ("most", (((10, 0),), 0), CHARGE, 0, 0, whole(100))
        for strength in range(-2, 104):
            self.check(0 <= strength <= 100, changed(spirit, 4, strength), (((1, 1),), (0, 1)))
            nothing = ("most", STILL, NOTHING, 0, strength, (0, 1))
            self.check(0 <= strength <= 100, nothing, (TAKING, (0, 1)))

    def test_a_taking_that_is_too_weak(self):
        # Just strong enough is 3/7; with a little more it has more spirit than any CEILING tells.
        for third, is_so in (((3, 7), True), ((301, 700), False), ((1, 1), False), ((299, 700), False)):
            spirit = makers.as_pair(45 + 9 * makers.as_fraction(third))
            self.check(is_so, changed(MOST, 5, spirit), (TAKING[:2] + (third,), (1, 350)))

    def test_a_taking_of_heads(self):
        claim = ("most", STILL, CHARGE, 1, 50, makers.as_pair(27 + makers.as_fraction((9, 7))))
        self.check(True, claim, (((0, 1), (1, 1), (1, 7)), (1, 350)))
        for part in ((1, 1), (1, 1000), (1, makers.GREAT)):
            more = makers.as_pair(makers.as_fraction(claim[5]) + 18 * makers.as_fraction(part))
            self.check(False, changed(claim, 5, more), ((part, (1, 1), (1, 7)), (1, 350)))

    def test_a_taking_above_1_or_below_0(self):
        claim = ("most", (((5, 0), (5, 0)), 0), liquor(20, 0), 0, 50, whole(20))
        self.check(True, claim, (((1, 1), (1, 1)), (0, 1)))
        self.check(False, claim, (((2, 1), (0, 1)), (0, 1)))
        self.check(False, claim, (((0, 1), (2, 1)), (0, 1)))
        self.check(False, changed(claim, 5, whole(21)), (((11, 10), (1, 1)), (0, 1)))
        self.check(False, changed(claim, 5, whole(30)), (((2, 1), (1, 1)), (0, 1)))
        # Less than nothing of a row of water would make the rest strong enough.
        claim = ("most", (((5, 5), (0, 5)), 0), liquor(20, 20), 0, 51, whole(10))
        self.check(False, claim, (((1, 1), (-1, 1)), (1, 10)))
        self.check(False, claim, (((1, 1), (-1, 1)), (0, 1)))

    def test_a_taking_written_otherwise(self):
        for taking in (list(TAKING), TAKING[:2], TAKING + ((0, 1),), TAKING[:2] + ((6, 14),), TAKING[:2] + ([3, 7],),
                       (True, True, (3, 7)), (1, 1, (3, 7)), (True,) + TAKING[1:], ((2, 2),) + TAKING[1:],
                       ((True, 1),) + TAKING[1:], ((1, True),) + TAKING[1:], (), None, dict(enumerate(TAKING))):
            self.check(False, MOST, (taking, (1, 350)))
        for paper in ([TAKING, (1, 350)], TAKEN + (None,), (TAKING,), TAKING, ((1, 350), TAKING), (None, None)):
            self.check(False, MOST, paper)

    def test_below_the_ceiling(self):
        for weight in ((0, 1), (1, 351), (1, 349), (1, 1), (1, makers.GREAT), (makers.GREAT, 1)):
            self.check(makers.as_fraction(ceiling(*MOST[1:5], weight)) == makers.as_fraction((342, 7)), MOST,
                       (TAKING, weight))
        less = ((1, 1), (1, 1), (0, 1))
        for weight in ((0, 1), (1, 350), (1, 351), (1, 349)):
            self.check(False, changed(MOST, 5, whole(45)), (less, weight))

    def test_a_weight_below_0(self):
        # At strength 0 each row spares: a weight below 0 would put the CEILING as low as you like.
        claim = ("most", STILL, CHARGE, 0, 0, whole(18))
        self.check(False, claim, (((1, 1), (0, 1), (0, 1)), (-1, 100)))
        self.check(False, changed(claim, 5, (0, 1)), (((0, 1),) * 3, (-1, 100)))
        self.check(True, changed(claim, 5, whole(54)), (((1, 1),) * 3, (0, 1)))

    def test_without_any_charge(self):
        for weight in ((0, 1), (7, 3)):
            for taking in (((0, 1),) * 3, ((1, 1),) * 3, TAKING):
                self.check(True, ("most", STILL, NOTHING, 0, 50, (0, 1)), (taking, weight))
                self.check(False, ("most", STILL, NOTHING, 0, 50, (1, 1)), (taking, weight))

    def is_so(self, still, charge, heads, strength, spirit, taking, weight):
        rows = rows_off(still, charge)
        heart = heart_of(rows, [makers.as_fraction(part) for part in taking])
        if any(part != (0, 1) for part in taking[:heads]) or spared(heart, strength) < 0:
            return False
        top = ceiling_by_hand(rows, heads, strength, makers.as_fraction(weight))
        return heart[0] == makers.as_fraction(spirit) >= top

    def test_of_dice(self):
        dice = random.Random(60)
        seen = {True: 0, False: 0}
        for question in dice_questions(dice, 150):
            spirit, taking, weight = most(*question)
            papers = [(taking, weight), (taking, (weight[0], weight[1] * 2 - 1)), (taking, (0, 1))]
            at = dice.randrange(len(taking))
            papers += [(changed(taking, at, other), weight) for other in ((0, 1), (1, 1), (1, 2))]
            for other, by in papers:
                for told in (spirit, makers.as_pair(heart_of(rows_off(*question[:2]), [
                        makers.as_fraction(part) for part in other])[0])):
                    by = makers.as_pair(makers.as_fraction(by))
                    is_so = self.is_so(*question, told, other, by)
                    self.check(is_so, ("most", *question, told), (other, by))
                    self.assertTrue(told == spirit or not is_so)
                    seen[is_so] += 1
        self.assertGreater(min(seen.values()), 150)


class Never(Checking):
    def test_forms_of_its_parts(self):
        self.check_places(NEVER, liquor(8, 0), {
            1: ([HALF, KEEPS[:1] + HALF[1:]], NO_PLANS), 2: ([EIGHT], NO_ROUNDS), 3: ([16, 17, 99999], NO_CAPS + [15]),
        })
        for paper in NO_LIQUORS:
            self.check(False, NEVER, paper)

    def test_cap_just_within_and_beyond(self):
        nothing = ("never", HALF, (((0, 0), (0, 0)),), 1)
        for cap in (-1, 0, 1, 99999, 100000):
            self.check(1 <= cap <= 99999, changed(nothing, 3, cap), NOTHING)

    def test_how_many_steps(self):
        for many in range(6):
            self.check(1 <= many <= 3, ("never", HALF, EIGHT * many, 99), liquor(8, 0))

    def test_washes_and_cuts_just_within_and_beyond(self):
        for spirit in (0, 9999, 10000, -1):
            self.check(0 <= spirit <= 9999, ("never", HALF, (((spirit, 0), (1, 2)),), 99999), liquor(9999, 0))
            self.check(0 <= spirit <= 9999, ("never", HALF, (((0, spirit), (0, 2)),), 99999), NOTHING)
        for cut in ((0, 0), (0, 1), (1, 1), (1, 2), (2, 2), (0, 2)):
            self.check(True, ("never", HALF, (((0, 0), cut),), 1), NOTHING)
        for cut in ((0, 3), (2, 1), (-1, 1), (1, 3), (True, 2), (1, 2, 2), (1,), [1, 2]):
            self.check(False, ("never", HALF, (((0, 0), cut),), 1), NOTHING)

    def test_a_charge_of_just_cap_and_above_it(self):
        for kept, cap, is_so in ((8, 16, True), (8, 15, False), (9, 16, False), (9, 17, True), (100, 108, True),
                                 (100, 107, False)):
            self.check(is_so, changed(NEVER, 3, cap), liquor(kept, 0))
        # The water that is kept counts, too, and stays.
        for cap, is_so in ((20, False), (21, True)):
            self.check(is_so, changed(NEVER, 3, cap), liquor(8, 5))

    def test_each_step_counts(self):
        little, much = ((1, 0), (0, 2)), ((50, 0), (0, 2))
        for steps in ((much, little, little), (little, much, little), (little, little, much), (much,)):
            self.check(True, ("never", HALF, steps, 50), NOTHING)
            self.check(False, ("never", HALF, steps, 49), NOTHING)

    def test_as_much_kept_behind_a_round_and_more(self):
        for kept, is_so in (((8, 1), True), ((79, 10), False), ((7, 1), False), ((81, 10), True), ((0, 1), False)):
            self.check(is_so, changed(NEVER, 3, 99999), (kept, (0, 1)))
        # Of water half is kept, of spirit all.
        other = (WHOLE, (((10, 5), (0, 5)), 0))
        for kept, is_so in (((8, 1), True), ((79, 10), False), ((7, 1), False), ((81, 10), True)):
            self.check(is_so, ("never", other, (((0, 8), (1, 2)),), 99999), ((3, 1), kept))
        # One part that grows is enough.
        for wash in ((1, 0), (0, 1), (1, 1)):
            self.check(False, ("never", KEEPS, ((wash, (0, 0)),), 99999), liquor(100, 100))

    def test_behind_a_round_not_behind_a_step(self):
        # More is kept behind the first STEP, all is heart at the second.
        steps = (((8, 8), (0, 0)), ((0, 0), (0, 2)))
        self.check(True, ("never", KEEPS, steps, 16), NOTHING)
        self.check(True, ("never", KEEPS, steps, 18), liquor(1, 1))
        self.check(False, ("never", KEEPS, steps[::-1], 99), NOTHING)
        self.check(True, ("never", KEEPS, steps[::-1], 16), liquor(8, 8))

    def test_of_dice(self):
        dice = random.Random(61)
        seen = {True: 0, False: 0}
        for _ in range(60):
            plan = makers.plan(dice)
            steps = makers.steps(dice, plan, dice.choice((1, 2, 3)))
            start = (0, 0) if rounds.grows(plan, steps) else rounds.long_run(plan, steps)
            for more in ((0, 0), (1, 0), (0, 1), (dice.randrange(999), dice.randrange(999)), (-1, 0), (0, -1)):
                kept = tuple(max(rounds.Fraction(0), one + other) for one, other in zip(start, more))
                charges, behind = rounds.run_rounds(plan, steps, kept, 1)[0]
                for cap in just_caps(plan, steps) + [99999]:
                    no_more = all(one <= other for one, other in zip(behind, kept))
                    is_so = no_more and all(sum(charge) <= cap for charge in charges)
                    self.check(is_so, ("never", plan, steps, int(cap)), tuple(makers.as_pair(one) for one in kept))
                    seen[is_so] += 1
        self.assertGreater(min(seen.values()), 150)

    def test_what_is_taken_is_true(self):
        dice = random.Random(62)
        for _ in range(40):
            plan = makers.plan(dice)
            steps = makers.steps(dice, plan, dice.choice((1, 2, 3)))
            for cap in [int(cap) for cap in just_caps(plan, steps)]:
                if holds(("never", plan, steps, cap), liquor(dice.randrange(9999), dice.randrange(9999))):
                    self.assertIsNone(rounds.first_over(plan, steps, cap, 400))


class Over(Checking):
    def test_forms_of_its_parts(self):
        self.check_places(OVER, None, {
            1: ([KEEPS], NO_PLANS), 2: ([ONES], NO_ROUNDS), 3: ([7], NO_CAPS + [6, 8]),
            4: ([2], things() + [0, 1, 3, "2", (2,), True]), 5: ([1], things() + [0, 2, 3, "1", (1,)]),
        })

    def test_truths_are_no_numbers(self):
        self.check(True, ("over", KEEPS, ONES, 1, 0, 1), None)
        for claim in (("over", KEEPS, ONES, True, 0, 1), ("over", KEEPS, ONES, 1, False, 1),
                      ("over", KEEPS, ONES, 1, 0, True)):
            self.check(False, claim, None)

    def test_each_step_and_round(self):
        for cap in range(1, 12):
            for last in range(-1, 5):
                for at in range(-1, 5):
                    is_so = (last, at) == divmod(cap, 3)
                    self.check(is_so, ("over", KEEPS, ONES, cap, last, at), None)

    def test_the_number_of_a_step_that_there_is(self):
        for many in (1, 2, 3):
            for at in range(-1, 5):
                steps = (((0, 0), (0, 2)),) * (many - 1) + (((9, 9), (0, 2)),)
                self.check(at == many - 1, ("over", KEEPS, steps, 17, 0, at), None)

    def test_the_last_round_that_counts(self):
        for cap, last, at, is_so in (
            (1199, 399, 2, True), (1198, 399, 1, True), (1197, 399, 0, True), (1200, 400, 0, False),
            (1196, 398, 2, True), (1199, 399, 1, False), (1199, 398, 2, False), (1200, 399, 2, False), (1, 0, 1, True),
        ):
            self.check(is_so, ("over", KEEPS, ONES, cap, last, at), None)
        for last in (-1, 400, 401, 10 ** 100):
            self.check(False, ("over", KEEPS, ONES, 1199, last, 2), None)

    def test_cap_just_within_and_beyond(self):
        for cap in (-1, 0, 1):
            self.check(cap == 1, ("over", KEEPS, (((2, 0), (0, 2)),), cap, 0, 0), None)
        great = (((0, 250), (0, 0)),)
        self.check(True, ("over", KEEPS, great, 99999, 399, 0), None)
        self.check(False, ("over", KEEPS, (((9999, 9999), (0, 0)),), 100000, 5, 0), None)

    def test_just_cap_is_no_overflow(self):
        self.check(False, ("over", KEEPS, (((5, 7), (0, 2)),), 12, 0, 0), None)
        self.check(True, ("over", KEEPS, (((5, 7), (0, 2)),), 11, 0, 0), None)

    def test_the_first_step_alone(self):
        # The second STEP is over in each ROUND, the first and the third are from the second ROUND on.
        steps = (((3, 0), (0, 0)), ((3, 0), (0, 0)), ((0, 0), (0, 0)))
        for last in range(3):
            for at in range(3):
                self.check((last, at) == (0, 1), ("over", KEEPS, steps, 5, last, at), None)

    def test_how_many_steps(self):
        for many in range(6):
            self.check(1 <= many <= 3, ("over", KEEPS, ONES[:1] * many, 1, *divmod(1, max(many, 1))), None)

    def test_of_dice(self):
        dice = random.Random(63)
        seen = {True: 0, False: 0}
        for _ in range(50):
            plan = makers.plan(dice)
            steps = makers.steps(dice, plan, dice.choice((1, 2, 3)))
            for cap in just_caps(plan, steps)[:2] + [dice.randrange(1, 20000)]:
                first = rounds.first_over(plan, steps, cap, 60)
                last, at = first or (dice.randrange(5), 0)
                for claimed in ((last, at), (last + 1, at), (last - 1, at), (last, at + 1), (last, at - 1), (0, 0)):
                    is_so = claimed == first
                    self.check(is_so, ("over", plan, steps, int(cap), *claimed), None)
                    seen[is_so] += 1
        self.assertGreater(min(seen.values()), 30)

    def test_many_rounds_of_long_numbers(self):
        # Unlike parts of spirit and of water are kept, in tenths that have no common divisor.
        plan = ((((3, 7),), 3), (((3, 3), (3, 1), (3, 5)), 1))
        steps = (((9999, 9997), (1, 2)), ((13, 7), (2, 2)), ((1, 1), (0, 1)))
        self.check(False, ("over", plan, steps, 99999, 399, 2), None)


class Steady(Checking):
    def test_forms_of_its_parts(self):
        self.check_places(STEADY, None, {
            1: ([HALF], NO_PLANS), 2: ([EIGHT], NO_ROUNDS), 3: ([liquor(8, 0), liquor(8, 7)], NO_LIQUORS),
        })

    def test_what_is_kept_again_and_what_is_not(self):
        for spirit in ((8, 1), (7, 1), (9, 1), (0, 1), (79, 10), (81, 10), (makers.GREAT, makers.GREAT // 8)):
            for water in ((0, 1), (5, 1), (1, 3), (makers.GREAT, 7)):
                kept = (makers.as_pair(makers.as_fraction(spirit)), makers.as_pair(makers.as_fraction(water)))
                self.check(kept[0] == (8, 1), ("steady", HALF, EIGHT, kept), None)
        # Of water half is kept, of spirit all.
        other = (WHOLE, (((10, 5), (0, 5)), 0))
        for water in (7, 8, 9):
            self.check(water == 8, ("steady", other, (((0, 8), (1, 2)),), liquor(3, water)), None)

    def test_the_example_of_a_plan(self):
        self.check(True, ("steady", PLAN, (STEP,), ((54, 1), (243, 7))), None)
        for kept in (((54, 1), (243, 8)), ((53, 1), (243, 7)), NOTHING, ((243, 7), (54, 1))):
            self.check(False, ("steady", PLAN, (STEP,), kept), None)

    def test_whatever_stays(self):
        for kept in (NOTHING, liquor(5, 0), liquor(makers.GREAT, 3), ((1, 3), (5, 7))):
            self.check(True, ("steady", KEEPS, (((0, 0), (0, 0)),), kept), None)
            self.check(False, ("steady", KEEPS, (((1, 0), (0, 0)),), kept), None)
            self.check(False, ("steady", KEEPS, (((0, 1), (0, 0)),), kept), None)

    def test_behind_a_round_not_behind_a_step(self):
        steps = (((8, 8), (0, 0)), ((0, 0), (0, 2)))
        self.check(True, ("steady", KEEPS, steps, NOTHING), None)
        self.check(False, ("steady", KEEPS, steps[::-1], NOTHING), None)
        self.check(True, ("steady", KEEPS, steps[::-1], liquor(8, 8)), None)

    def test_how_many_steps(self):
        for many in range(6):
            self.check(1 <= many <= 3, ("steady", HALF, EIGHT * many, liquor(8, 0)), None)

    def test_of_dice(self):
        dice = random.Random(64)
        for _ in range(80):
            plan = makers.plan(dice)
            steps = makers.steps(dice, plan, dice.choice((1, 2, 3)))
            start = (0, 0) if rounds.grows(plan, steps) else rounds.long_run(plan, steps)
            for more in ((0, 0), (1, 0), (0, 1)):
                kept = tuple(rounds.Fraction(one + other) for one, other in zip(start, more))
                is_so = rounds.run_rounds(plan, steps, kept, 1)[0][1] == kept
                self.check(is_so, ("steady", plan, steps, tuple(makers.as_pair(one) for one in kept)), None)
                self.assertTrue(is_so or any(more) or rounds.grows(plan, steps))
