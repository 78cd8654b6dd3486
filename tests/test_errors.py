"""The classes of haulropes/errors.py."""

import inspect
import unittest

from haulropes import errors

# The attributes that the interface lists for each class, with values for them.
ATTRIBUTES = {
    "InvalidFleet": {"part": "ropes", "index": 7},
    "InvalidRope": {},
    "InvalidBarge": {},
    "Contradictory": {},
    "InvalidPositions": {"index": 2},
    "BrokenRope": {"index": 3},
    "InvalidWishes": {"index": 4},
    "InvalidGoal": {"barge": 5},
    "InvalidHaul": {"index": 6},
    "InvalidCrew": {"index": 1},
    "CrewTooSmall": {"knot": (0, 2)},
    "InvalidCertificate": {"index": 8},
    "InvalidLimit": {},
    "UnknownRope": {},
    "InvalidOperation": {"index": 9},
    "InvalidName": {},
    "UnknownCheckpoint": {},
    "ScriptError": {"row": 10},
    "ExecutionFailed": {"row": 11},
    "StepLimitExceeded": {},
    "NotationError": {"row": 12, "word": 13},
    "InvalidCount": {},
    "DecodeError": {"offset": 14},
}


class ErrorsTest(unittest.TestCase):
    def test_base_class(self):
        self.assertEqual(errors.HaulError.__bases__, (ValueError,))

    def test_all_others_are_direct_subclasses(self):
        for name in ATTRIBUTES:
            with self.subTest(name):
                self.assertEqual(getattr(errors, name).__bases__, (errors.HaulError,))

    def test_no_other_classes(self):
        names = [name for name, _ in inspect.getmembers(errors, inspect.isclass)]
        self.assertEqual(sorted(names), sorted(list(ATTRIBUTES) + ["HaulError"]))

    def test_defined_in_this_file(self):
        for name in list(ATTRIBUTES) + ["HaulError"]:
            self.assertEqual(getattr(errors, name).__module__, "haulropes.errors")

    def test_attributes_by_position(self):
        for name, attributes in ATTRIBUTES.items():
            with self.subTest(name):
                error = getattr(errors, name)(*attributes.values())
                self.assertEqual(vars(error), attributes)

    def test_attributes_by_keyword(self):
        for name, attributes in ATTRIBUTES.items():
            with self.subTest(name):
                error = getattr(errors, name)(**attributes)
                self.assertEqual(vars(error), attributes)

    def test_attributes_are_required(self):
        for name, attributes in ATTRIBUTES.items():
            if attributes:
                with self.subTest(name):
                    self.assertRaises(TypeError, getattr(errors, name))

    def test_attributes_of_two_objects_do_not_mix(self):
        first = errors.NotationError(1, 2)
        second = errors.NotationError(3, 4)
        self.assertEqual((first.row, first.word, second.row, second.word), (1, 2, 3, 4))

    def test_message(self):
        for name, attributes in ATTRIBUTES.items():
            message = str(getattr(errors, name)(**attributes))
            for value in attributes.values():
                self.assertIn(str(value), message)

    def test_caught_as_base_and_as_value_error(self):
        for kind in (errors.HaulError, ValueError):
            with self.assertRaises(kind):
                raise errors.DecodeError(0)


if __name__ == "__main__":
    unittest.main()
