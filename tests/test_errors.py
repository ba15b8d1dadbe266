"""Point 2: the errors of the package."""

import inspect
import unittest

from unseenfolds import errors
from unseenfolds.errors import FoldError

ATTRIBUTES = {
    "BadKind": ["name"], "BadTable": ["row"], "EmptyWord": [], "NotSimple": ["letter"], "BadLetter": ["letter"],
    "BadLength": ["length"], "BadStrand": ["number"], "BadIndex": ["index"], "BadPlace": ["place"],
    "BadFeed": ["place"], "TooLarge": ["what"],
    "BadWidth": ["width"], "BadNet": ["number"], "NoNode": ["node"], "TooLong": ["node"], "OtherWidth": [],
    "BadNetText": ["line"],
    "BadLoss": ["place"], "TooMany": ["number"], "NotRuns": ["node"], "Gone": [], "BadBlow": ["place"],
    "NotTree": ["node"], "BadCount": ["number"],
    "EmptyPlan": [], "BadPlan": ["place"], "NoPiece": ["number"], "BadRun": ["place"], "BadLosses": ["lacks"],
    "BadWorkers": ["workers"], "BadHeight": ["levels"], "NotScan": ["place"], "BadWindow": ["wide"],
    "NotWindows": ["place"], "BadTimetable": ["place"], "NoTight": ["number"],
    "NotReady": [], "BadDeed": ["name"], "Closed": [],
}


class ErrorsTest(unittest.TestCase):
    def test_all_errors_of_the_package_are_there_and_no_others(self):
        classes = {name for name, thing in vars(errors).items() if inspect.isclass(thing)}
        self.assertEqual(classes, set(ATTRIBUTES) | {"FoldError"})

    def test_the_base(self):
        self.assertEqual(FoldError.__bases__, (ValueError,))

    def test_each_stands_directly_under_the_base(self):
        for name in ATTRIBUTES:
            self.assertEqual(getattr(errors, name).__bases__, (FoldError,), name)

    def test_parameters_are_attributes(self):
        for name, attributes in ATTRIBUTES.items():
            worths = [f"{name} {attribute}" for attribute in attributes]
            for error in (
                getattr(errors, name)(*worths),
                getattr(errors, name)(**dict(zip(attributes, worths))),
            ):
                self.assertEqual(vars(error), dict(zip(attributes, worths)), name)

    def test_each_takes_just_its_parameters(self):
        for name, attributes in ATTRIBUTES.items():
            if attributes:
                self.assertRaises(TypeError, getattr(errors, name))

    def test_they_are_caught_by_the_base_and_as_value_errors(self):
        for name, attributes in ATTRIBUTES.items():
            for base in (FoldError, ValueError):
                with self.assertRaises(base):
                    raise getattr(errors, name)(*attributes)

    def test_any_value_is_kept(self):
        thing = object()
        self.assertIs(errors.NoNode(thing).node, thing)
        self.assertIs(errors.BadKind(None).name, None)


if __name__ == "__main__":
    unittest.main()
