"""The section "Errors" of the interface."""
import inspect
import unittest

from tests.helper import Odd, PackageTest
from tracewords import errors

BASES = {"TableError": ValueError, "MissingError": LookupError, "StateError": RuntimeError,
         "LimitError": ArithmeticError}

# Copied from the document: the class in front, then its classes with their parameters.
CLASSES = {
    "TableError": "InvalidHouse(value), InvalidMany(value), InvalidNumber(value), InvalidRoom(value), "
                  "InvalidRow(value), InvalidRows(value), InvalidTable(value), InvalidWord(value), DividedByZero(), "
                  "InvalidClaim(value), InvalidCommand(value), InvalidEnds(value), InvalidFive(value), "
                  "InvalidGoals(value), InvalidLetters(value), InvalidLines(position), InvalidMachine(value), "
                  "InvalidMixture(value), InvalidPaper(value), InvalidPlace(value), InvalidSize(value), "
                  "InvalidSort(value), InvalidStart(value), InvalidTables(value), InvalidText(line), "
                  "InvalidValue(value)",
    "MissingError": "UnknownLabel(value), UnknownName(value)",
    "StateError": "UnlikeSizes(), CommandFailed(position), LabelTaken(label), NameTaken(name), NoneThere(), "
                  "NotCommuting(), NotParted(), NotTwo(), NotUndone(), NothingToRedo(), NothingToUndo(), "
                  "NoughtRoom(), UnlikeLetters(), WholeRoom()",
    "LimitError": "TooMany(what limit)",
}


def told_classes():
    """All classes that the document names: (base, name, parameters)."""
    for base, line in CLASSES.items():
        for told in line.split(", "):
            name, _, parts = told.partition("(")
            yield base, name, parts.rstrip(")").split()


class ErrorsTest(PackageTest):
    def test_classes_in_front(self):
        for name, parent in BASES.items():
            self.assertEqual(getattr(errors, name).__bases__, (parent,))

    def test_each_class_stands_directly_below_its_own(self):
        for base, name, _ in told_classes():
            self.assertEqual(getattr(errors, name).__bases__, (getattr(errors, base),), name)
            self.assertEqual(getattr(errors, name).__module__, "tracewords.errors")

    def test_no_other_class(self):
        known = set(BASES) | {name for _, name, _ in told_classes()}
        found = {name for name, value in vars(errors).items() if inspect.isclass(value)}
        self.assertEqual(found, known)

    def test_parameters(self):
        for _, name, parts in told_classes():
            made = getattr(errors, name)
            self.assertEqual(list(inspect.signature(made).parameters), parts, name)
            self.assertRaises(TypeError, made, *parts, "one more")
            if parts:
                self.assertRaises(TypeError, made)

    def test_attributes_hold_what_is_passed(self):
        held = [None, 0, True, -3, "text", (), [[1]], {}, Odd(), Odd, len]
        for _, name, parts in told_classes():
            made = getattr(errors, name)
            for value in held:
                by_place = made(*[value for _ in parts])
                by_name = made(**{part: value for part in parts})
                for part in parts:
                    self.assertIs(getattr(by_place, part), value)
                    self.assertIs(getattr(by_name, part), value)

    def test_two_parts(self):
        error = errors.TooMany("size", 4)
        self.assertEqual((error.what, error.limit), ("size", 4))
        error = errors.TooMany(limit=6, what="leads")
        self.assertEqual((error.what, error.limit), ("leads", 6))

    def test_they_are_raised_and_caught(self):
        for base, name, parts in told_classes():
            with self.assertRaises(BASES[base]):
                raise getattr(errors, name)(*parts)
            self.assertIsInstance(str(getattr(errors, name)(*parts)), str)


if __name__ == "__main__":
    unittest.main()
