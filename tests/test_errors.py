"""The errors: what they are below, and what they carry."""

import unittest

from stillknown import errors
from tests.plain import ODD_VALUES

WITH_ATTRIBUTE = {
    "BadLoop": "part", "BadPattern": "part", "BadBook": "part", "BadRows": "at", "NoQuestion": "name",
    "BadExpression": "spot", "TooMany": "most", "BadKind": "kind", "BadNumber": "part", "BadMix": "part",
    "BadReadings": "at", "BadKeep": "at", "BadBooks": "at", "NoVersion": "at", "BadPlaces": "at",
    "BadTold": "name", "NoPlace": "at", "NotNow": "word", "BadJournal": "at", "BadText": "at",
}
WITHOUT = (
    "BadRow BadKinds BadForm BadPath BadRule BadPieces BadReading BadPaper BadNumbers BadModulus BadWanted "
    "Endless BadOrder BadSide BadPrices BadChoice BadIndex NotKnown BadAmong BadExpressions OtherKinds "
    "BadMarks BadLayout BadLot BadLinks BadRoot BadFilling BadTies BadTie BadTuples BadChecks BadCount "
    "BadSeat BadSeats BadWidth BadScheme Unfit BadPolynomial BadName NothingDone"
).split()


class Errors(unittest.TestCase):
    def test_bases(self):
        self.assertEqual(errors.StillError.__bases__, (ValueError,))
        for name in [*WITH_ATTRIBUTE, *WITHOUT]:
            self.assertEqual(getattr(errors, name).__bases__, (errors.StillError,), name)

    def test_none_is_forgotten(self):
        there = {name for name, value in vars(errors).items() if isinstance(value, type)}
        self.assertEqual(there, {"StillError", *WITH_ATTRIBUTE, *WITHOUT})

    def test_attributes_by_position_and_by_name(self):
        for name, attribute in WITH_ATTRIBUTE.items():
            made = getattr(errors, name)
            for value in [*ODD_VALUES, 10 ** 5000, object()]:
                self.assertIs(getattr(made(value), attribute), value)
                self.assertIs(getattr(made(**{attribute: value}), attribute), value)
                self.assertIsInstance(str(made(value)), str)
                self.assertIsInstance(repr(made(value)), str)

    def test_messages(self):
        for name in WITHOUT:
            made = getattr(errors, name)("so it is")
            self.assertEqual(str(made), "so it is")
            with self.assertRaises(ValueError):
                raise made

    def test_attribute_is_asked(self):
        for name in WITH_ATTRIBUTE:
            with self.assertRaises(TypeError):
                getattr(errors, name)()


class Package(unittest.TestCase):
    def test_init_defines_nothing(self):
        import ast
        import stillknown
        with open(stillknown.__file__, encoding="utf-8") as file:
            body = ast.parse(file.read()).body
        self.assertTrue(all(isinstance(part, ast.Expr) for part in body))


if __name__ == "__main__":
    unittest.main()
