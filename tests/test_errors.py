"""The section "Errors" of the document."""

import inspect
import unittest

from aheadsums import errors
from tests.helping import Case, odd_values

BASES = {"SumsError": ValueError, "MissingError": LookupError, "StateError": RuntimeError,
         "LimitError": ArithmeticError}

WITH_VALUE = """
InvalidColumns InvalidForm InvalidLetter InvalidMany InvalidNumber InvalidPosition InvalidProgram InvalidReader
InvalidRow InvalidTable InvalidTally InvalidWord InvalidAnswers InvalidClaim InvalidColumn InvalidCommand InvalidHigh
InvalidLast InvalidLots InvalidLow InvalidNumbers InvalidOthers InvalidPaper InvalidParts InvalidPolynomial InvalidRows
InvalidRuns InvalidSide InvalidStart InvalidSteps InvalidWhere InvalidWords
""".split()


def all_classes():
    """For each class its base class and the names of its attributes."""
    told = {name: ("SumsError", ["value"]) for name in WITH_VALUE}
    told["DividedByZero"] = ("SumsError", [])
    told["InvalidDeeds"] = ("SumsError", ["position"])
    told["InvalidText"] = ("SumsError", ["line"])
    told["UnknownLabel"] = ("MissingError", ["value"])
    told["UnknownName"] = ("MissingError", ["value"])
    told["UnlikeColumns"] = ("StateError", [])
    told["CommandFailed"] = ("StateError", ["position"])
    told["LabelTaken"] = ("StateError", ["label"])
    told["NameTaken"] = ("StateError", ["name"])
    told["NotForward"] = ("StateError", [])
    told["NothingToRedo"] = ("StateError", [])
    told["NothingToUndo"] = ("StateError", [])
    told["TooMany"] = ("LimitError", ["what", "limit"])
    return told


class ErrorsTest(Case):
    def test_there_are_so_many(self):
        self.assertEqual((len(WITH_VALUE), len(all_classes())), (32, 45))

    def test_the_four_groups_have_their_base_class_alone(self):
        for name, base in BASES.items():
            self.assertEqual(getattr(errors, name).__bases__, (base,))

    def test_each_class_has_its_base_class_alone(self):
        for name, (base, _) in all_classes().items():
            with self.subTest(name):
                self.assertEqual(getattr(errors, name).__bases__, (getattr(errors, base),))

    def test_each_class_is_defined_in_the_file(self):
        for name in list(all_classes()) + list(BASES):
            self.assertEqual(getattr(errors, name).__module__, "aheadsums.errors")

    def test_the_attributes_are_the_parameters(self):
        for name, (_, attributes) in all_classes().items():
            with self.subTest(name):
                made = getattr(errors, name)
                if attributes:
                    self.assertEqual(list(inspect.signature(made).parameters), attributes)

    def test_attributes_are_as_they_were_passed_whatever_they_are(self):
        values = odd_values() + [0, 5, -1, 10 ** 30, [], [[1], 2], (1, (2,)), [True]]
        for name, (_, attributes) in all_classes().items():
            made = getattr(errors, name)
            for at, value in enumerate(values):
                passed = [value, values[at - 1]][:len(attributes)]
                for error in (made(*passed), made(**dict(zip(attributes, passed)))):
                    for attribute, one in zip(attributes, passed):
                        self.is_passed(getattr(error, attribute), one)

    def test_they_are_raised_and_caught_by_their_groups(self):
        for name, (base, attributes) in all_classes().items():
            error = getattr(errors, name)(*[None for _ in attributes])
            for wider in (getattr(errors, base), BASES[base], Exception):
                with self.assertRaises(wider) as caught:
                    raise error
                self.assertIs(caught.exception, error)

    def test_the_groups_are_apart(self):
        for name in BASES:
            for other in BASES:
                self.assertEqual(issubclass(getattr(errors, name), getattr(errors, other)), name == other)


if __name__ == "__main__":
    unittest.main()
