"""Point 1 and the interface: arguments, returned values and names."""

import copy
import doctest
import inspect
import pathlib
import unittest

from haulropes import fleets, hauling
from haulropes.errors import HaulError, InvalidBarge, InvalidFleet, InvalidHaul, InvalidPositions, InvalidWishes
from support import CLASH, RING, ErrorCase

PARAMETERS = {
    "broken_ropes": ["fleet", "positions"],
    "taut_ropes": ["fleet", "positions"],
    "chain_length": ["fleet", "front", "rear"],
    "find_circle": ["fleet"],
    "is_circle": ["fleet", "circle"],
    "haul": ["fleet", "positions", "barge", "position"],
    "haul_all": ["fleet", "positions", "hauls"],
    "total_distance": ["fleet", "positions", "hauls"],
    "dragged_barges": ["fleet", "positions", "barge", "position"],
    "least_positions": ["fleet", "positions", "wishes"],
    "greatest_positions": ["fleet", "limits"],
    "reachable_ranges": ["fleet", "positions", "limits"],
}
IN_FLEETS = ("broken_ropes", "taut_ropes", "chain_length", "find_circle", "is_circle")

# Calls with valid arguments, and the kind of the value that each of them returns.
CALLS = (
    (fleets.broken_ropes, (RING, (10, 4, 0)), list),
    (fleets.taut_ropes, (RING, (10, 5, 5)), list),
    (fleets.chain_length, (RING, 0, 2), int),
    (fleets.find_circle, (CLASH,), list),
    (fleets.is_circle, (CLASH, [0, 1]), bool),
    (hauling.haul, (RING, (0, 0, 0), 0, 12), tuple),
    (hauling.haul_all, (RING, (0, 0, 0), [(0, 8), (2, 6)]), tuple),
    (hauling.haul_all, (RING, (0, 0, 0), []), tuple),
    (hauling.total_distance, (RING, (0, 0, 0), [(0, 8), (1, 6)]), int),
    (hauling.dragged_barges, (RING, (0, 0, 0), 0, 8), list),
    (hauling.least_positions, (RING, (0, 0, 0), (8, None, 6)), tuple),
    (hauling.greatest_positions, (RING, (None, 4, None)), tuple),
    (hauling.reachable_ranges, (RING, (0, 0, 0), (None, 4, None)), list),
)
FAILING_CALLS = (
    (fleets.broken_ropes, ((3, [(0, 1, 5)]), [0, 0])),
    (fleets.broken_ropes, ([2, ((0, 1, 5),)], [0, 0])),
    (fleets.taut_ropes, (RING, [0, 0, 0])),
    (hauling.haul_all, (RING, (0, 0, 0), [(0, 8), (1, 2)])),
    (hauling.total_distance, (RING, (0, 0, 0), [(0, 8), [1, 6]])),
    (hauling.least_positions, (RING, (0, 0, 0), [None, 5, None])),
    (hauling.greatest_positions, (CLASH, (None, None))),
)


class InterfaceTest(unittest.TestCase):
    def test_names_and_arguments(self):
        for name, parameters in PARAMETERS.items():
            module = fleets if name in IN_FLEETS else hauling
            function = getattr(module, name)
            self.assertEqual(list(inspect.signature(function).parameters), parameters)
            self.assertEqual(function.__module__, module.__name__)

    def test_arguments_by_keyword(self):
        self.assertEqual(hauling.haul(fleet=RING, positions=(0, 0, 0), barge=0, position=12), (12, 7, 2))
        self.assertEqual(fleets.chain_length(rear=2, front=0, fleet=RING), 10)

    def test_examples_of_the_readme(self):
        readme = pathlib.Path(__file__).resolve().parent.parent / "README.md"
        result = doctest.testfile(str(readme), module_relative=False)
        self.assertGreater(result.attempted, 0)
        self.assertEqual(result.failed, 0)


class ArgumentsTest(ErrorCase):
    def test_kinds_of_values(self):
        for call, arguments, kind in CALLS:
            self.assertIs(type(call(*arguments)), kind)

    def test_repeated_calls_return_equal_values(self):
        for call, arguments, _ in CALLS:
            first = call(*copy.deepcopy(arguments))
            self.assertEqual(first, call(*copy.deepcopy(arguments)))
            self.assertEqual(first, call(*arguments))

    def test_arguments_stay_as_they_are(self):
        for call, arguments, _ in CALLS:
            before = copy.deepcopy(arguments)
            call(*arguments)
            self.assertEqual(arguments, before)

    def test_arguments_stay_as_they_are_after_errors(self):
        for call, arguments in FAILING_CALLS:
            before = copy.deepcopy(arguments)
            with self.assertRaises(HaulError) as first:
                call(*arguments)
            self.assertEqual(arguments, before)
            with self.assertRaises(HaulError) as second:
                call(*arguments)
            self.assertEqual(vars(first.exception), vars(second.exception))

    def test_changed_values_change_no_later_answer(self):
        for call, arguments, kind in CALLS:
            if kind is list:
                value = call(*arguments)
                before = list(value)
                value.append("changed")
                value[0] = "changed"
                self.assertEqual(call(*arguments), before)

    def test_arguments_are_not_kept(self):
        hauls = [(0, 8), (2, 6)]
        self.assertEqual(hauling.haul_all(RING, (0, 0, 0), hauls), (8, 3, 6))
        hauls.pop()
        self.assertEqual(hauling.haul_all(RING, (0, 0, 0), hauls), (8, 3, 0))
        circle = fleets.find_circle(CLASH)
        self.assertTrue(fleets.is_circle(CLASH, circle))
        circle.pop()
        self.assertFalse(fleets.is_circle(CLASH, circle))
        self.assertTrue(fleets.is_circle(CLASH, fleets.find_circle(CLASH)))

    def test_errors_in_the_order_of_the_arguments(self):
        self.expect(InvalidFleet, fleets.broken_ropes, (0, ()), None, part="count", index=0)
        self.expect(InvalidFleet, fleets.chain_length, (2, None), 9, 9, part="ropes", index=0)
        self.expect(InvalidFleet, hauling.haul, None, None, None, None, part="fleet", index=0)
        self.expect(InvalidPositions, hauling.haul, RING, (0, 0, True), 9, None, index=2)
        self.expect(InvalidHaul, hauling.haul, RING, (0, 0, 0), 9, None, index=0)
        self.expect(InvalidPositions, hauling.least_positions, RING, None, None, index=0)
        self.expect(InvalidWishes, hauling.reachable_ranges, RING, (9, 9, 9), (0, 0), index=2)
        self.expect(InvalidWishes, hauling.greatest_positions, CLASH, None, index=0)
        self.expect(InvalidBarge, fleets.chain_length, CLASH, None, 0)


if __name__ == "__main__":
    unittest.main()
