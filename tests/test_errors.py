"""Each error: its one base class, its attributes and parameters, and that it is caught by its family."""

import unittest

from tests.kinds import ALL_KINDS
from toldpushes import errors

FAMILIES = [(ValueError, "PlanError"), (LookupError, "MissingError"), (RuntimeError, "StateError"),
            (ArithmeticError, "LimitError")]

VALUED = ("InvalidKnown InvalidLot InvalidNumber InvalidNumbers InvalidPlan InvalidPushes InvalidSize InvalidTable "
          "InvalidTelling InvalidThing InvalidArrows InvalidClaim InvalidCommand InvalidGoals InvalidMany InvalidOrder "
          "InvalidPaper InvalidRoad InvalidRows InvalidSort InvalidTies InvalidValue").split()

MEMBERS = [("PlanError", name, ["value"]) for name in VALUED]
MEMBERS += [("PlanError", "DividedByZero", []), ("PlanError", "InvalidLines", ["position"]),
            ("PlanError", "InvalidText", ["line"]), ("MissingError", "UnknownLabel", ["value"]),
            ("MissingError", "UnknownName", ["value"]), ("StateError", "CommandFailed", ["position"]),
            ("StateError", "LabelTaken", ["label"]), ("StateError", "NameTaken", ["name"]),
            ("LimitError", "TooMany", ["what", "limit"])]
MEMBERS += [("StateError", name, []) for name in "NoneThere NotAbove NotBarred NotClosed NotEnough NotFull NotPlain "
            "NotSymmetric NotUndone NothingToRedo NothingToUndo UnlikeSizes".split()]


class Errors(unittest.TestCase):

    def test_families(self):
        for base, name in FAMILIES:
            self.assertEqual(getattr(errors, name).__bases__, (base,))

    def test_members(self):
        for family, name, _ in MEMBERS:
            self.assertEqual(getattr(errors, name).__bases__, (getattr(errors, family),), name)

    def test_there_are_no_others(self):
        told = {name for name, value in vars(errors).items() if isinstance(value, type)}
        self.assertEqual(told, {name for _, name in FAMILIES} | {name for _, name, _ in MEMBERS})
        self.assertEqual(len(MEMBERS), 43)

    def test_parameters_and_attributes(self):
        for _, name, parts in MEMBERS:
            made = getattr(errors, name)
            for value in ALL_KINDS:
                passed = [value, "other"][:len(parts)]
                by_name = dict(zip(parts, passed))
                for error in (made(*passed), made(**by_name)):
                    self.assertEqual(list(vars(error)), parts)
                    for part in parts:
                        self.assertIs(getattr(error, part), by_name[part])

    def test_no_more_and_no_fewer_parameters(self):
        for _, name, parts in MEMBERS:
            made = getattr(errors, name)
            with self.assertRaises(TypeError):
                made(*parts, "more")
            if parts:
                with self.assertRaises(TypeError):
                    made(*parts[1:])

    def test_caught_by_family(self):
        for family, name, parts in MEMBERS:
            made = getattr(errors, name)
            builtin = getattr(errors, family).__bases__[0]
            for wide in (made, getattr(errors, family), builtin):
                with self.assertRaises(wide):
                    raise made(*parts)
            for other, _ in FAMILIES:
                self.assertEqual(issubclass(made, other), other is builtin)


if __name__ == "__main__":
    unittest.main()
