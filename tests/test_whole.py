"""What is promised over the whole program."""

import random
import unittest

from tests import ledgers_by_hand, makers
from tests.test_checker import EIGHT, ONES, RIGHT
from tests.test_duties import DUTY, RULES
from tests.test_floods import HALF
from tests.test_interface import FUNCTIONS
from tests.test_ledgers import ALL_HEART, EASY, FAILING, HOUSE
from tests.test_movings import SEVERAL
from tests.test_steadies import KEEPS
from tests.test_takings import CHARGE, STILL
from tests.test_walks import PLAN, STEP
from tests.things import liquor, outcome, told_and_unchanged
from twicerun import errors
from twicerun.casks import made_of
from twicerun.checker import holds
from twicerun.clashes import clash
from twicerun.desk import Desk
from twicerun.duties import duty_of, is_duty, is_rules
from twicerun.floods import most_wash, overflow
from twicerun.fractions import below, fraction, is_fraction, minus, over, plus, times
from twicerun.houses import House
from twicerun.ledgers import fails, is_deed, is_ledger, standing
from twicerun.liquors import is_liquor, measures, strength, together
from twicerun.loops import behind, loop
from twicerun.movings import duties, duty_then, moved
from twicerun.papers import paper_most, paper_overflow, paper_steady
from twicerun.runs import cut_by, rows_of, run
from twicerun.steadies import near, steady
from twicerun.stills import falls, is_cut, is_still, shares
from twicerun.takings import best_cut, ceiling, most
from twicerun.traces import ages, traced
from twicerun.walks import walk

NOTHING = makers.NOTHING
ROUND = (STEP, ((7, 300), (0, 2)), ((0, 50), (2, 3)))
TELLINGS = ((1, "heart", liquor(7, 7)), (0, "kept", NOTHING))
# Of each function one question at least, and for each some that are refused, if it refuses.
ASKED = (
    (is_fraction, (1, 2)), (fraction, 6, -4), (plus, (1, 2), (1, 3)), (minus, (1, 2), (1, 3)), (times, (1, 2), (2, 3)),
    (over, (1, 2), (1, 3)), (below, (1, 2), (1, 3)), (is_liquor, CHARGE), (together, CHARGE, CHARGE),
    (measures, CHARGE), (strength, CHARGE), (strength, NOTHING), (is_still, STILL), (is_cut, STILL, (1, 2)),
    (shares, STILL, (1, 2)), (falls, STILL), (run, STILL, (1, 2), CHARGE), (rows_of, STILL, CHARGE),
    (cut_by, STILL, CHARGE, 70, 30), (walk, PLAN, ROUND, CHARGE), (loop, PLAN, ROUND), (behind, PLAN, ROUND, CHARGE, 400),
    (steady, PLAN, ROUND), (steady, KEEPS, ONES), (near, PLAN, ROUND, CHARGE, 1000000), (near, KEEPS, ONES, NOTHING, 1),
    (overflow, PLAN, (STEP,), 218), (overflow, PLAN, (STEP,), 251), (overflow, KEEPS, ONES, 99999),
    (most_wash, PLAN, ROUND, 5000), (most_wash, KEEPS, (((0, 0), (0, 0)),), 5), (traced, PLAN, ROUND, CHARGE),
    (ages, PLAN, (STEP,), 40), (ages, HALF, EIGHT, 3), (ceiling, STILL, CHARGE, 0, 50, (1, 350)),
    (most, STILL, CHARGE, 0, 50), (best_cut, STILL, CHARGE, 0, 50), (is_duty, DUTY), (is_rules, RULES),
    (duty_of, DUTY, CHARGE), (is_deed, RULES, ALL_HEART), (is_ledger, EASY, HOUSE), (fails, EASY, HOUSE),
    (fails, EASY, FAILING[0][0]), (standing, EASY, HOUSE, 7), (made_of, EASY, HOUSE, 9, "oak"), (duties, EASY, SEVERAL),
    (duty_then, EASY, SEVERAL, 5, 4), (moved, EASY, SEVERAL, 6), (clash, EASY, HOUSE, TELLINGS), (holds, *RIGHT[0]),
    (holds, *RIGHT[1]), (holds, *RIGHT[2]), (holds, *RIGHT[3]), (holds, RIGHT[0][0], None),
    (paper_most, STILL, CHARGE, 0, 50), (paper_overflow, PLAN, (STEP,), 251), (paper_overflow, KEEPS, ONES, 99999),
    (paper_steady, PLAN, ROUND), (paper_steady, KEEPS, ONES),
)
NEVER_REFUSE = (is_fraction, plus, minus, times, below, is_liquor, together, measures, strength, is_still, is_duty,
                is_rules, holds)


def refused():
    """Each question with one argument wrong; and what divides by 0."""
    told = [(fraction, 1, 0), (over, (1, 2), (0, 1))]
    for call, *arguments in ASKED:
        if call not in NEVER_REFUSE and call not in (fraction, over):
            places = range(len(arguments)) if call not in (is_cut, is_deed, is_ledger) else (0,)
            told += [(call, *arguments[:at], [], *arguments[at + 1:]) for at in places]
    for call, *rest in ((standing, 7), (made_of, 9, "oak"), (duties,), (duty_then, 5, 4), (moved, 6), (clash, ())):
        told += [(call, EASY, ledger, *rest) for ledger, why in FAILING]
    return told


def plain(thing):
    """Whether a thing is made of tuples, whole numbers, texts, truths and None alone."""
    if type(thing) is tuple:
        return all(plain(part) for part in thing)
    return thing is None or type(thing) in (int, str, bool)


class Asked(unittest.TestCase):
    def test_each_function_is_asked(self):
        names = {written.partition("(")[0] for functions in FUNCTIONS.values() for written in functions}
        self.assertEqual({call.__name__ for call, *arguments in ASKED}, names)

    def test_what_is_told_is_of_the_kinds_told(self):
        for call, *arguments in ASKED:
            self.assertTrue(plain(call(*arguments)), call.__name__)

    def test_asked_again_the_same_is_told(self):
        first = [told_and_unchanged(self, *question) for question in ASKED]
        written = repr(first)
        self.assertEqual({word for word, told in first}, {"told"})
        dice = random.Random(80)
        questions = [(question, told) for question, told in zip(ASKED, first)]
        for _ in range(3):
            dice.shuffle(questions)
            for question, told in questions:
                self.assertEqual(outcome(*question), told)
        self.assertEqual(repr(first), written)

    def test_asked_again_behind_refusals_the_same_is_told(self):
        first = [outcome(*question) for question in ASKED]
        for question in refused():
            word, kind = told_and_unchanged(self, *question)
            self.assertEqual((word, kind.__bases__), ("refused", (errors.StillError,)), question)
            self.assertEqual(told_and_unchanged(self, *question), (word, kind))
        self.assertEqual([outcome(*question) for question in ASKED], first)

    def test_each_refusal_is_there(self):
        kinds = {outcome(*question)[1].__name__ for question in refused()}
        there = {name for name, thing in vars(errors).items() if isinstance(thing, type)}
        # NoDeed is the house's, NoRow the desk's.
        self.assertEqual(there - kinds, {"StillError", "NoDeed", "NoRow"})


class HandedIn(unittest.TestCase):
    """What was told may be handed in, of however many figures, and stays as it was told."""

    def setUp(self):
        self.kept = behind(PLAN, ROUND, liquor(7, 5), 400)
        self.assertGreater(len(str(self.kept[0][1])), 500)

    def test_what_is_kept(self):
        written = repr(self.kept)
        self.assertEqual(behind(PLAN, ROUND, self.kept, 0), self.kept)
        self.assertEqual(walk(PLAN, ROUND, self.kept)[2][2], behind(PLAN, ROUND, self.kept, 1))
        self.assertEqual(near(PLAN, ROUND, self.kept, 1000000), 0)
        for rows, told in zip(walk(PLAN, ROUND, self.kept), traced(PLAN, ROUND, self.kept)):
            self.assertEqual(makers.total([part for number, part in told]), rows[1])
        self.assertEqual(repr(self.kept), written)

    def test_as_a_charge(self):
        self.assertTrue(is_liquor(self.kept))
        self.assertEqual(makers.total(run(STILL, (1, 2), self.kept)), self.kept)
        self.assertEqual(duty_of(((0, 1),), self.kept), self.kept[0])
        cut = cut_by(STILL, self.kept, 70, 30)
        self.assertTrue(is_cut(STILL, cut))
        self.assertEqual(makers.total(run(STILL, cut, self.kept)), self.kept)
        spirit, taking, weight = most(STILL, self.kept, 0, 50)
        self.assertEqual(ceiling(STILL, self.kept, 0, 50, weight), spirit)
        self.assertIs(holds(("most", STILL, self.kept, 0, 50, spirit), (taking, weight)), True)
        spirit, cut = best_cut(STILL, self.kept, 0, 50)
        self.assertEqual(run(STILL, cut, self.kept)[1][0], spirit)

    def test_what_is_steady(self):
        told = tuple(way[1] for way in steady(PLAN, ROUND))
        self.assertEqual(behind(PLAN, ROUND, told, 400), told)
        self.assertEqual(walk(PLAN, ROUND, told)[-1][2], told)
        self.assertEqual(near(PLAN, ROUND, told, 1000000), 0)
        self.assertIs(holds(("steady", PLAN, ROUND, told), None), True)
        self.assertIs(holds(("steady", PLAN, ROUND, self.kept), None), False)

    def test_fractions(self):
        for spirit, water in (self.kept, shares(STILL, (1, 2))[0][:2]):
            self.assertEqual(minus(plus(spirit, water), water), spirit)
            self.assertEqual(over(times(spirit, water), water), spirit)
            self.assertTrue(is_fraction(plus(spirit, water)))
        self.assertEqual(times(strength(self.kept), measures(self.kept)), self.kept[0])

    def test_where_it_overflows(self):
        word, last, at = overflow(PLAN, (STEP,), 250)
        kept = behind(PLAN, (STEP,), NOTHING, last)
        self.assertTrue(below((250, 1), measures(walk(PLAN, (STEP,), kept)[at][0])))
        self.assertIs(holds(("over", PLAN, (STEP,), 250, last, at), None), True)

    def test_of_a_ledger(self):
        kept, receiver, casks, out = standing(EASY, SEVERAL, 9999)
        self.assertEqual(makers.total([part for entry, part in made_of(EASY, SEVERAL, 9999, casks[1][0])]), casks[1][1])
        self.assertEqual(makers.total(walk(EASY[:2], (((0, 0), (0, 2)),), receiver)[0][1:]), receiver)
        for day, duty in duties(EASY, SEVERAL):
            self.assertEqual(duty_then(EASY, SEVERAL, day, len(SEVERAL)), duty)
        number, word, told, found = clash(EASY, HOUSE, TELLINGS)
        self.assertIsNone(clash(EASY, HOUSE, ((number, word, found),)))

    def test_of_a_house(self):
        house, other = House(EASY), House(EASY)
        told = []
        for entry in SEVERAL:
            told.append((house.enter(*entry), house.ledger(), house.standing(9999)))
        written = repr(told)
        for day, deed in house.ledger():
            other.enter(day, deed)
        self.assertEqual(other.ledger(), house.ledger())
        self.assertEqual(repr(told), written)
        for number, (moved_then, ledger, there) in enumerate(told):
            self.assertEqual(moved(EASY, ledger, number), moved_then)
            self.assertEqual(house.moved(number), moved_then)
            self.assertEqual(standing(EASY, ledger, 9999), there)

    def test_of_a_desk(self):
        desk = Desk(EASY)
        for row in ("run 1 60 40 0 2", "fill 2 a 50", "run 1 0 40 0 2"):
            desk.say(row)
        for row in ("casks 2", "made 2 a", "kept 2", "duty 2", "then 2 2", "moved 2"):
            told = desk.say(row)
            for other in ("casks 0", "duty 9999", "", None, "moved 9", "made 2 z", "casks 2 " + told, told):
                outcome(desk.say, other)
            self.assertEqual(desk.say(row), told)


class Promise(unittest.TestCase):
    def test_a_house_of_dice(self):
        dice = random.Random(81)
        for _ in range(4):
            rules = ledgers_by_hand.dice_rules(dice)
            house = House(rules)
            for day, deed in ledgers_by_hand.dice_ledger(dice, rules, 16):
                ahead = [house.standing(on) for on in (0, day - 1) if 0 <= on < day]
                casks_then = dict(house.standing(9999)[2])
                duties_then = dict(house.duties())
                casks, days = house.enter(day, deed)
                # Nothing ahead of its DAY is another one; all else that is another one is told, as it was and as it is.
                self.assertEqual([house.standing(on) for on in (0, day - 1) if 0 <= on < day], ahead)
                self.assertTrue(all(on >= day for on, then, now in days))
                self.assertEqual({**casks_then, **{name: now for name, then, now in casks}},
                                 dict(house.standing(9999)[2]))
                self.assertEqual({**duties_then, **{on: now for on, then, now in days}}, dict(house.duties()))
                self.assertTrue(all(casks_then.get(name) == then != now for name, then, now in casks))
                self.assertTrue(all(duties_then.get(on) == then != now for on, then, now in days))
            self.check_all_is_there(house)

    def check_all_is_there(self, house):
        for day in (0, 3, 9999):
            kept, receiver, casks, out = house.standing(day)
            washes = [liquor(*deed[1]) for on, deed in house.ledger() if deed[0] == "run" and on <= day]
            self.assertEqual(makers.total([kept, receiver, *(there for name, there in casks), *out]),
                             makers.total(washes))
            for name, there in casks:
                self.assertEqual(makers.total([part for entry, part in house.made_of(day, name)]), there)

    def test_papers_of_dice(self):
        dice = random.Random(82)
        for _ in range(60):
            plan = makers.plan(dice)
            steps = makers.steps(dice, plan, dice.choice((1, 2, 3)))
            for told in (paper_steady(plan, steps), paper_overflow(plan, steps, dice.choice((1, 500, 9000, 99999))),
                         paper_most(plan[0], makers.liquor(dice), 0, dice.randrange(101))):
                self.assertTrue(told is None or holds(*told))
