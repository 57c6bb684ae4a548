"""The classes of errors."""

import unittest

from endtellers import errors
from endtellers.errors import (
    EndError, InvalidFraction, InvalidKinds, InvalidNumber, InvalidNumbers, InvalidPolynomial, InvalidRow,
    InvalidSteps, InvalidTeller, InvalidWeights, NotFair, NotTelling,
)
from tests.making import NOTHING

WITH_GIVEN = [InvalidPolynomial, InvalidFraction, InvalidTeller, InvalidRow, InvalidNumber]
WITH_INDEX = [InvalidNumbers, InvalidKinds, InvalidSteps, InvalidWeights]
WITH_NONE = [NotFair, NotTelling]
VALUES = NOTHING + [0, 1, True, (1, 1), 10 ** 5000, -7, 0.5]


class Errors(unittest.TestCase):
    def test_given_is_kept(self):
        for kind in WITH_GIVEN:
            for value in VALUES:
                self.assertIs(kind(value).given, value)
                self.assertIs(kind(given=value).given, value)
                self.assertFalse(hasattr(kind(value), "index"))

    def test_index_is_kept(self):
        for kind in WITH_INDEX:
            for value in VALUES:
                self.assertIs(kind(value).index, value)
                self.assertIs(kind(index=value).index, value)
                self.assertFalse(hasattr(kind(value), "given"))

    def test_attributes_are_asked_for(self):
        for kind in WITH_GIVEN + WITH_INDEX:
            with self.assertRaises(TypeError):
                kind()
            with self.assertRaises(TypeError):
                kind(1, 2)
        for kind in WITH_GIVEN:
            with self.assertRaises(TypeError):
                kind(index=1)
        for kind in WITH_INDEX:
            with self.assertRaises(TypeError):
                kind(given=1)

    def test_without_attributes(self):
        for kind in [EndError] + WITH_NONE:
            raised = kind()
            self.assertEqual(vars(raised), {})

    def test_what_they_stand_under(self):
        self.assertEqual(EndError.__mro__, (EndError, ValueError, Exception, BaseException, object))
        for kind in WITH_GIVEN + WITH_INDEX + WITH_NONE:
            self.assertEqual(kind.__mro__, (kind, EndError, ValueError, Exception, BaseException, object))

    def test_each_is_caught_by_its_own_class_and_those_above_alone(self):
        kinds = WITH_GIVEN + WITH_INDEX + WITH_NONE
        for kind in kinds:
            raised = kind() if kind in WITH_NONE else kind(None)
            for other in kinds:
                self.assertEqual(isinstance(raised, other), kind is other)
            with self.assertRaises(EndError):
                raise raised
            with self.assertRaises(ValueError):
                raise raised

    def test_any_of_them_can_be_shown(self):
        for kind in WITH_GIVEN + WITH_INDEX:
            self.assertIsInstance(str(kind(10 ** 5000)), str)
            self.assertIsInstance(repr(kind(10 ** 5000)), str)
            self.assertIsInstance(str(kind(Ellipsis)), str)

    def test_they_are_all(self):
        found = [value for value in vars(errors).values() if isinstance(value, type)]
        self.assertCountEqual(found, [EndError] + WITH_GIVEN + WITH_INDEX + WITH_NONE)
        for kind in found:
            self.assertEqual(kind.__module__, "endtellers.errors")


if __name__ == "__main__":
    unittest.main()
