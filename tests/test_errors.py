import itertools
import unittest

from plain import any_values
from threeorders import errors

CLASSES = {
    "InvalidName": ["value"], "InvalidLot": ["at"], "InvalidFind": ["at"], "InvalidWord": ["at"],
    "InvalidFact": ["at"], "InvalidOrder": ["at"], "InvalidKind": ["at"], "InvalidPair": ["at"],
    "InvalidDeed": ["at"], "InvalidText": ["line", "why"], "InvalidNumber": ["value"], "InvalidStatement": [],
    "InvalidQuestion": [], "InvalidClaim": [], "InvalidTimes": ["name"], "InvalidWeights": ["name"],
    "DuplicateName": ["name"], "TooMany": ["most"], "TooFew": ["least"], "CannotStand": ["one", "two", "three"],
    "Standing": [], "Clash": ["marks"], "NotFitting": [], "NotShown": [], "NotABlock": ["lot"], "OtherFinds": [],
    "Same": ["name"], "NoTable": ["why", "found"], "Taken": ["name"], "InUse": ["mark"], "NoFinds": [],
    "UnknownName": ["name"], "UnknownFind": ["name"], "UnknownNode": ["lot"], "UnknownKept": ["at"],
    "NothingLeft": [],
}
MISSING = ["UnknownName", "UnknownFind", "UnknownNode", "UnknownKept"]


class ErrorsTest(unittest.TestCase):
    def test_base_classes(self):
        self.assertEqual(errors.FindError.__bases__, (ValueError,))
        self.assertEqual(errors.Missing.__bases__, (LookupError,))
        self.assertEqual(errors.NothingLeft.__bases__, (IndexError,))
        for name in CLASSES:
            if name != "NothingLeft":
                base = errors.Missing if name in MISSING else errors.FindError
                self.assertEqual(getattr(errors, name).__bases__, (base,), name)

    def test_no_class_is_a_subclass_of_another_one(self):
        for name, other in itertools.permutations(CLASSES, 2):
            self.assertFalse(issubclass(getattr(errors, name), getattr(errors, other)), (name, other))
        for name in CLASSES:
            if name in MISSING or name == "NothingLeft":
                self.assertFalse(issubclass(getattr(errors, name), errors.FindError), name)
            else:
                self.assertFalse(issubclass(getattr(errors, name), errors.Missing), name)

    def test_there_are_no_other_errors(self):
        found = [name for name, value in vars(errors).items() if isinstance(value, type)]
        self.assertEqual(sorted(found), sorted([*CLASSES, "FindError", "Missing"]))

    def test_by_place(self):
        for name, parameters in CLASSES.items():
            values = any_values()
            for at in range(len(values)):
                given = [values[(at + step) % len(values)] for step in range(len(parameters))]
                self.check(getattr(errors, name)(*given), name, parameters, given)

    def test_by_name_in_any_order(self):
        for name, parameters in CLASSES.items():
            values = any_values()
            for at in range(0, len(values), 3):
                given = [values[(at + step) % len(values)] for step in range(len(parameters))]
                for pairs in itertools.permutations(list(zip(parameters, given))):
                    self.check(getattr(errors, name)(**dict(pairs)), name, parameters, given)

    def check(self, error, name, parameters, given):
        self.assertEqual(error.code, name)
        for parameter, value in zip(parameters, given):
            self.assertEqual(getattr(error, parameter), value)
            self.assertEqual(repr(getattr(error, parameter)), repr(value))
        self.assertEqual(sorted(vars(error)), sorted([*parameters, "code"]))

    def test_other_numbers_of_values(self):
        for name, parameters in CLASSES.items():
            with self.assertRaises(TypeError):
                getattr(errors, name)(*(["a"] * (len(parameters) + 1)))
            if parameters:
                with self.assertRaises(TypeError):
                    getattr(errors, name)(*(["a"] * (len(parameters) - 1)))

    def test_two_classes_have_no_code(self):
        self.assertFalse(hasattr(errors.FindError(), "code"))
        self.assertFalse(hasattr(errors.Missing(), "code"))
        self.assertFalse(hasattr(errors.FindError, "code"))
        self.assertFalse(hasattr(errors.Missing, "code"))

    def test_they_can_be_raised_and_caught(self):
        for name, parameters in CLASSES.items():
            with self.assertRaises(getattr(errors, name)) as caught:
                raise getattr(errors, name)(*parameters)
            self.assertEqual([getattr(caught.exception, each) for each in parameters], parameters)

    def test_all_errors_copy_lists(self):
        for name, parameters in CLASSES.items():
            given = [["a", ["b"]] for _ in parameters]
            error = getattr(errors, name)(*given)
            for parameter, value in zip(parameters, given):
                value[1].append("x")
                value.append("x")
                self.assertEqual(getattr(error, parameter), ["a", ["b"]], name)

    def test_lists_are_copied(self):
        marks = ["a", ["b"], (["c"],)]
        error = errors.Clash(marks)
        marks[1].append("x")
        marks[2][0].append("x")
        marks.append("x")
        self.assertEqual(error.marks, ["a", ["b"], (["c"],)])
        self.assertEqual(marks, ["a", ["b", "x"], (["c", "x"],), "x"])
