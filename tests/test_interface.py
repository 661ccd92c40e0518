"""The names and arguments that the interface lists, module by module."""

import importlib
import inspect
import unittest

FUNCTIONS = {
    "fractions": ("is_fraction(thing)", "fraction(top, bottom)", "plus(a, b)", "minus(a, b)", "times(a, b)",
                  "over(a, b)", "below(a, b)"),
    "liquors": ("is_liquor(thing)", "together(one, other)", "measures(liquor)", "strength(liquor)"),
    "stills": ("is_still(thing)", "is_cut(still, thing)", "shares(still, cut)", "falls(still)"),
    "runs": ("run(still, cut, charge)", "rows_of(still, charge)", "cut_by(still, charge, high, low)"),
    "walks": ("walk(plan, steps, kept)",),
    "loops": ("loop(plan, steps)", "behind(plan, steps, kept, many)"),
    "steadies": ("steady(plan, steps)", "near(plan, steps, kept, fine)"),
    "floods": ("overflow(plan, steps, cap)", "most_wash(plan, steps, cap)"),
    "traces": ("traced(plan, steps, kept)", "ages(plan, steps, many)"),
    "takings": ("ceiling(still, charge, heads, strength, weight)", "most(still, charge, heads, strength)",
                "best_cut(still, charge, heads, strength)"),
    "duties": ("is_duty(thing)", "is_rules(thing)", "duty_of(duty, liquor)"),
    "ledgers": ("is_deed(rules, thing)", "is_ledger(rules, thing)", "fails(rules, ledger)",
                "standing(rules, ledger, day)"),
    "casks": ("made_of(rules, ledger, day, cask)",),
    "movings": ("duties(rules, ledger)", "duty_then(rules, ledger, day, many)", "moved(rules, ledger, entry)"),
    "clashes": ("clash(rules, ledger, tellings)",),
    "checker": ("holds(claim, paper)",),
    "papers": ("paper_most(still, charge, heads, strength)", "paper_overflow(plan, steps, cap)",
               "paper_steady(plan, steps)"),
}
CLASSES = {
    ("houses", "House"): ("__init__(self, rules)", "enter(self, day, deed)", "ledger(self)", "standing(self, day)",
                          "made_of(self, day, cask)", "duties(self)", "duty_then(self, day, many)",
                          "moved(self, entry)"),
    ("desk", "Desk"): ("__init__(self, rules)", "say(self, row)"),
}


def written(function):
    return function.__name__ + str(inspect.signature(function))


class Interface(unittest.TestCase):
    def test_names_and_arguments(self):
        for name, functions in FUNCTIONS.items():
            module = importlib.import_module("twicerun." + name)
            for wanted in functions:
                function = getattr(module, wanted.partition("(")[0])
                self.assertEqual(written(function), wanted)
                self.assertEqual(function.__module__, module.__name__)

    def test_classes_and_their_own_methods(self):
        for (name, kind), methods in CLASSES.items():
            there = getattr(importlib.import_module("twicerun." + name), kind)
            self.assertEqual(there.__bases__, (object,))
            for wanted in methods:
                self.assertEqual(written(vars(there)[wanted.partition("(")[0]]), wanted)
