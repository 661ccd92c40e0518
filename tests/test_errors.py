import copy
import unittest

from twicerun import errors

NAMES = (
    "NoNumber NoLiquor NoStill NoCut NoPlan NoStep NoCount NoFine NoCap NoStrength NoHeads NoWeight "
    "NoDuty NoRules NoDeed NoLedger NoTellings Fails NoDay NoName NoEntry NoRow"
).split()


class Errors(unittest.TestCase):
    def test_base_is_a_value_error(self):
        self.assertEqual(errors.StillError.__bases__, (ValueError,))

    def test_each_stands_under_the_base_alone(self):
        for name in NAMES:
            self.assertEqual(getattr(errors, name).__bases__, (errors.StillError,), name)
            self.assertEqual(getattr(errors, name).__name__, name)

    def test_none_stands_under_another(self):
        for name in NAMES:
            for other in NAMES:
                under = issubclass(getattr(errors, name), getattr(errors, other))
                self.assertEqual(under, name == other)

    def test_there_are_no_others(self):
        there = [name for name, thing in vars(errors).items() if isinstance(thing, type)]
        self.assertEqual(sorted(there), sorted(NAMES + ["StillError"]))

    def test_fails_has_its_fields(self):
        fails = errors.Fails(3, 70, "full")
        self.assertEqual((fails.entry, fails.day, fails.word), (3, 70, "full"))
        twin = copy.copy(fails)
        self.assertEqual((twin.entry, twin.day, twin.word), (3, 70, "full"))

    def test_each_is_raised_and_caught_by_its_name(self):
        for name in NAMES:
            if name != "Fails":
                with self.assertRaises(getattr(errors, name)):
                    raise getattr(errors, name)("why")
        with self.assertRaises(errors.StillError):
            raise errors.Fails(0, 0, "less")
