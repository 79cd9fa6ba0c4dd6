"""The refusals: their bases, and the values that they have from the start."""

import copy
import unittest

from aisleshift import errors
from aisleshift.errors import AisleError, BadStep, BadStore, BadText, Barred


class ErrorsTest(unittest.TestCase):

    def test_any_refusal_is_a_value_error(self):
        self.assertTrue(issubclass(AisleError, ValueError))
        for kind in (BadStore, BadStep, Barred, BadText):
            self.assertEqual(kind.__bases__, (AisleError,))

    def test_no_refusal_is_caught_as_another(self):
        kinds = (BadStore, BadStep, Barred, BadText)
        for one in kinds:
            self.assertEqual([kind for kind in kinds if issubclass(one, kind)], [one])

    def test_classes_stand_in_their_file(self):
        for name in ("AisleError", "BadStore", "BadStep", "Barred", "BadText"):
            self.assertEqual(getattr(errors, name).__module__, "aisleshift.errors")

    def test_values_by_place_and_by_name(self):
        for error in (BadStore("shelf", 3), BadStore(word="shelf", number=3)):
            self.assertEqual((error.word, error.number), ("shelf", 3))
        for error in (Barred("kept", 2, 7), Barred(rule="kept", number=2, at=7)):
            self.assertEqual((error.rule, error.number, error.at), ("kept", 2, 7))
        for error in (BadText(4), BadText(row=4)):
            self.assertEqual(error.row, 4)

    def test_values_are_each_objects_own(self):
        first, second = BadStore("shelf", 1), BadStore("wish", 2)
        self.assertEqual((first.word, first.number), ("shelf", 1))
        self.assertEqual((second.word, second.number), ("wish", 2))

    def test_a_copy_has_the_same_values(self):
        error = copy.copy(Barred("sticks", 1, 2))
        self.assertEqual((error.rule, error.number, error.at), ("sticks", 1, 2))


if __name__ == "__main__":
    unittest.main()
