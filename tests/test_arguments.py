"""Point 1 and the interface: arguments, returned values and names."""

import copy
import doctest
import inspect
import pathlib
import unittest

from haulropes import codec, distances, fleets, harbor, hauling, knots, logs, notation, ropes, scripts
from haulropes.errors import (
    BrokenRope, CrewTooSmall, HaulError, InvalidBarge, InvalidCertificate, InvalidCrew, InvalidFleet, InvalidGoal,
    InvalidHaul, InvalidPositions, InvalidRope, InvalidWishes)
from support import CLASH, RING, ErrorCase, show_course

WAY = ["fleet", "positions", "goal"]
PARAMETERS = {
    fleets: {
        "broken_ropes": ["fleet", "positions"],
        "taut_ropes": ["fleet", "positions"],
        "chain_length": ["fleet", "front", "rear"],
        "find_circle": ["fleet"],
        "is_circle": ["fleet", "circle"],
    },
    hauling: {
        "haul": ["fleet", "positions", "barge", "position"],
        "haul_all": ["fleet", "positions", "hauls"],
        "total_distance": ["fleet", "positions", "hauls"],
        "dragged_barges": ["fleet", "positions", "barge", "position"],
        "least_positions": ["fleet", "positions", "wishes"],
        "greatest_positions": ["fleet", "limits"],
        "reachable_ranges": ["fleet", "positions", "limits"],
    },
    knots: {
        "moving_barges": WAY,
        "find_knots": WAY,
        "find_source_knots": WAY,
        "fewest_hauls": WAY,
        "count_choices": WAY,
        "plan_fewest": WAY + ["crew"],
        "needs_haul": WAY + ["barges"],
    },
    distances: {
        "least_distance": WAY + ["crew"],
        "plan_shortest": WAY + ["crew"],
        "distance_certificate": WAY + ["crew"],
        "check_certificate": WAY + ["certificate", "crew"],
    },
    ropes: {
        "implied": ["fleet", "rope"],
        "counterexample": ["fleet", "rope"],
        "redundant_ropes": ["fleet"],
        "reduce_ropes": ["fleet"],
        "missing_rope": ["fleet", "other"],
    },
    logs: {
        "first_error": ["fleet", "positions", "log"],
        "shortest_ropes": ["count", "pairs", "arrangements"],
        "count_positions": ["fleet", "limit"],
    },
    harbor: {
        "Harbor": ["fleet", "positions"],
        "replay": ["fleet", "positions", "operations"],
    },
    scripts: {
        "run_script": ["fleet", "positions", "source"],
        "trace_script": ["fleet", "positions", "source"],
    },
    notation: {
        "format_state": ["fleet", "positions"],
        "parse_state": ["text"],
        "format_plan": ["hauls"],
        "parse_plan": ["text"],
    },
    codec: {
        "pack_bytes": ["values"],
        "unpack_bytes": ["data"],
        "encode_plan": ["fleet", "positions", "hauls"],
        "decode_plan": ["data"],
    },
}
# The methods of Harbor.
METHODS = {
    "haul_barge": ["barge", "position"],
    "tie_rope": ["rope"],
    "cut_rope": ["index"],
    "change_length": ["index", "length"],
    "reach": ["goal"],
    "current_fleet": [],
    "current_positions": [],
    "distance": [],
    "undo": [],
    "redo": [],
    "history": [],
    "save": ["name"],
    "restore": ["name"],
    "checkpoints": [],
    "apply_all": ["operations"],
    "is_busy": [],
}

START = (0, 0, 0)
GOAL = (10, 5, 5)
LOG = [((0, 8), (8, 3, 0)), ((2, 6), (8, 3, 6))]
SHOWN = [((0,), 4), ((1,), 4), ((0, 1), 16)]
PAIR = (2, ((0, 1, 4), (1, 0, 4)))
OPERATIONS = [("haul", 0, 8), ("tie", (0, 1, 5)), ("change", 1, 9), ("cut", 0), ("reach", (8, 5, 0))]
SCRIPT = "set n 2\nrepeat n\nhaul 0 by 4\nend\ncut 1"
STATE = "barges 2\nrope 0 1 5\nat 3 -2"
PLAN = [(0, 8), (2, 6)]

# Calls with valid arguments, and the kind of the value that each of them returns.
CALLS = (
    (fleets.broken_ropes, (RING, (10, 4, 0)), list),
    (fleets.taut_ropes, (RING, (10, 5, 5)), list),
    (fleets.chain_length, (RING, 0, 2), int),
    (fleets.find_circle, (CLASH,), list),
    (fleets.is_circle, (CLASH, [0, 1]), bool),
    (hauling.haul, (RING, (0, 0, 0), 0, 12), tuple),
    (hauling.haul_all, (RING, (0, 0, 0), [(0, 8), (2, 6)]), tuple),
    (hauling.haul_all, (RING, (0, 0, 0), []), tuple),
    (hauling.total_distance, (RING, (0, 0, 0), [(0, 8), (1, 6)]), int),
    (hauling.dragged_barges, (RING, (0, 0, 0), 0, 8), list),
    (hauling.least_positions, (RING, (0, 0, 0), (8, None, 6)), tuple),
    (hauling.greatest_positions, (RING, (None, 4, None)), tuple),
    (hauling.reachable_ranges, (RING, (0, 0, 0), (None, 4, None)), list),
    (knots.moving_barges, (RING, START, GOAL), list),
    (knots.find_knots, (RING, START, GOAL), list),
    (knots.find_source_knots, (RING, START, GOAL), list),
    (knots.fewest_hauls, (RING, START, GOAL), int),
    (knots.count_choices, (RING, START, GOAL), int),
    (knots.plan_fewest, (RING, START, GOAL), list),
    (knots.needs_haul, (RING, START, GOAL, [1, 0, 1]), bool),
    (distances.least_distance, (RING, START, GOAL), int),
    (distances.plan_shortest, (RING, START, GOAL), list),
    (distances.distance_certificate, (RING, START, GOAL), list),
    (distances.check_certificate, (PAIR, (0, 0), (20, 20), SHOWN), int),
    (ropes.implied, (RING, (0, 2, 10)), bool),
    (ropes.counterexample, (RING, (0, 2, 9)), tuple),
    (ropes.redundant_ropes, ((2, ((0, 1, 5), (0, 1, 5))),), list),
    (ropes.reduce_ropes, ((2, ((0, 1, 5), (0, 1, 5))),), tuple),
    (ropes.missing_rope, (RING, (3, ((0, 2, 10), (0, 2, 9)))), int),
    (logs.first_error, (RING, START, LOG + [None]), int),
    (logs.shortest_ropes, (2, [(0, 1), (1, 0)], [(0, 4), (9, 5)]), list),
    (logs.count_positions, ((2, ((0, 1, 0),)), 2), int),
    (scripts.run_script, (RING, START, SCRIPT), tuple),
    (scripts.trace_script, (RING, START, SCRIPT), list),
    (notation.format_state, (RING, START), str),
    (notation.parse_state, (STATE,), tuple),
    (notation.format_plan, (PLAN,), str),
    (notation.parse_plan, ("haul 0 8\nhaul 2 6",), list),
    (codec.pack_bytes, ([72, 1],), bytes),
    (codec.unpack_bytes, (b"H\x01",), list),
    (codec.encode_plan, (RING, START, PLAN), bytes),
    (codec.decode_plan, (codec.encode_plan(RING, START, PLAN),), tuple),
)
FAILING_CALLS = (
    (fleets.broken_ropes, ((3, [(0, 1, 5)]), [0, 0])),
    (fleets.broken_ropes, ([2, ((0, 1, 5),)], [0, 0])),
    (fleets.taut_ropes, (RING, [0, 0, 0])),
    (hauling.haul_all, (RING, (0, 0, 0), [(0, 8), (1, 2)])),
    (hauling.total_distance, (RING, (0, 0, 0), [(0, 8), [1, 6]])),
    (hauling.least_positions, (RING, (0, 0, 0), [None, 5, None])),
    (hauling.greatest_positions, (CLASH, (None, None))),
    (knots.moving_barges, (RING, START, [10, 5, 5])),
    (distances.check_certificate, (PAIR, (0, 0), (20, 20), SHOWN + [[(0,), 1]])),
    (ropes.counterexample, (RING, [0, 2, 9])),
    (logs.shortest_ropes, (2, [(0, 1), [1, 0]], [(0, 4), (9, 5)])),
    (logs.shortest_ropes, (2, [(0, 1)], [(0, 4), [9, 5]])),
    (harbor.Harbor, (RING, [0, 0, 0])),
    (harbor.replay, (RING, START, OPERATIONS + [["cut", 0]])),
    (harbor.replay, (RING, START, OPERATIONS + [("tie", [0, 1, 9])])),
    (scripts.run_script, (RING, START, SCRIPT + "\ncut 2")),
    (scripts.trace_script, (RING, START, "while 0 = 0\nhaul 0 by 1\nend")),
    (notation.format_plan, (PLAN + [[2, 6]],)),
    (notation.parse_state, (STATE + " 1",)),
    (codec.pack_bytes, ([72, 1, [2]],)),
    (codec.encode_plan, (RING, START, PLAN + [[2, 7]])),
    (codec.decode_plan, (codec.encode_plan(RING, START, PLAN)[:-1],)),
)


class InterfaceTest(unittest.TestCase):
    def test_names_and_arguments(self):
        for module, functions in PARAMETERS.items():
            for name, parameters in functions.items():
                function = getattr(module, name)
                self.assertEqual(list(inspect.signature(function).parameters), parameters)
                self.assertEqual(function.__module__, module.__name__)

    def test_methods_are_defined_in_their_class(self):
        for name, parameters in METHODS.items():
            method = vars(harbor.Harbor)[name]
            self.assertEqual(list(inspect.signature(method).parameters), ["self"] + parameters)
            self.assertEqual(method.__qualname__, "Harbor." + name)
            for parameter in inspect.signature(method).parameters.values():
                self.assertIs(parameter.kind, inspect.Parameter.POSITIONAL_OR_KEYWORD)
                self.assertIs(parameter.default, inspect.Parameter.empty)

    def test_crew_is_keyword_only_and_none_by_default(self):
        for module, functions in PARAMETERS.items():
            for name in functions:
                for parameter in inspect.signature(getattr(module, name)).parameters.values():
                    if parameter.name == "crew":
                        self.assertIs(parameter.kind, inspect.Parameter.KEYWORD_ONLY)
                        self.assertIs(parameter.default, None)
                    else:
                        self.assertIs(parameter.kind, inspect.Parameter.POSITIONAL_OR_KEYWORD)
                        self.assertIs(parameter.default, inspect.Parameter.empty)

    def test_arguments_by_keyword(self):
        self.assertEqual(hauling.haul(fleet=RING, positions=(0, 0, 0), barge=0, position=12), (12, 7, 2))
        self.assertEqual(fleets.chain_length(rear=2, front=0, fleet=RING), 10)
        shown = distances.check_certificate(
            crew=(0, 1), certificate=SHOWN, goal=(20, 20), positions=(0, 0), fleet=PAIR)
        self.assertEqual(shown, 24)
        self.assertEqual(logs.shortest_ropes(arrangements=[(0, 4)], pairs=[(1, 0)], count=2), [(1, 0, 4)])
        port = harbor.replay(operations=[("cut", 0)], positions=START, fleet=RING)
        self.assertEqual(port.haul_barge(position=8, barge=0), (8, 0, 0))
        self.assertEqual(port.change_length(length=9, index=0), 5)
        self.assertIsNone(port.save(name="a"))
        self.assertEqual(scripts.trace_script(source="", positions=START, fleet=RING), [])
        self.assertEqual(codec.encode_plan(hauls=[], positions=(0,), fleet=(1, ())), bytes([72, 1, 0, 0, 0, 73]))

    def test_examples_of_the_readme(self):
        readme = pathlib.Path(__file__).resolve().parent.parent / "README.md"
        result = doctest.testfile(str(readme), module_relative=False)
        self.assertGreater(result.attempted, 0)
        self.assertEqual(result.failed, 0)


class ArgumentsTest(ErrorCase):
    def test_kinds_of_values(self):
        for call, arguments, kind in CALLS:
            self.assertIs(type(call(*arguments)), kind)

    def test_repeated_calls_return_equal_values(self):
        for call, arguments, _ in CALLS:
            first = call(*copy.deepcopy(arguments))
            self.assertEqual(first, call(*copy.deepcopy(arguments)))
            self.assertEqual(first, call(*arguments))

    def test_arguments_stay_as_they_are(self):
        for call, arguments, _ in CALLS:
            before = copy.deepcopy(arguments)
            call(*arguments)
            self.assertEqual(arguments, before)

    def test_arguments_stay_as_they_are_after_errors(self):
        for call, arguments in FAILING_CALLS:
            before = copy.deepcopy(arguments)
            with self.assertRaises(HaulError) as first:
                call(*arguments)
            self.assertEqual(arguments, before)
            with self.assertRaises(HaulError) as second:
                call(*arguments)
            self.assertEqual(vars(first.exception), vars(second.exception))

    def test_changed_values_change_no_later_answer(self):
        for call, arguments, kind in CALLS:
            if kind is list:
                value = call(*arguments)
                before = copy.deepcopy(value)
                for item in value:
                    if isinstance(item, list):
                        item.append("changed")
                value.append("changed")
                value[0] = "changed"
                self.assertEqual(call(*arguments), before)

    def test_arguments_are_not_kept(self):
        hauls = [(0, 8), (2, 6)]
        self.assertEqual(hauling.haul_all(RING, (0, 0, 0), hauls), (8, 3, 6))
        hauls.pop()
        self.assertEqual(hauling.haul_all(RING, (0, 0, 0), hauls), (8, 3, 0))
        circle = fleets.find_circle(CLASH)
        self.assertTrue(fleets.is_circle(CLASH, circle))
        circle.pop()
        self.assertFalse(fleets.is_circle(CLASH, circle))
        self.assertTrue(fleets.is_circle(CLASH, fleets.find_circle(CLASH)))
        certificate = distances.distance_certificate(PAIR, (0, 0), (20, 20))
        certificate.append(((0, 1), 1))
        self.assertIsNone(distances.check_certificate(PAIR, (0, 0), (20, 20), certificate))
        certificate.pop()
        self.assertEqual(distances.check_certificate(PAIR, (0, 0), (20, 20), certificate), 24)
        operations = list(OPERATIONS)
        port = harbor.replay(RING, START, operations)
        operations.clear()
        self.assertEqual(port.history(), OPERATIONS)
        values = [72, 1]
        data = codec.pack_bytes(values)
        values.clear()
        self.assertEqual(codec.unpack_bytes(data), [72, 1])
        log = list(LOG)
        self.assertIsNone(logs.first_error(RING, START, log))
        log.append(((0, 8), (8, 3, 7)))
        self.assertEqual(logs.first_error(RING, START, log), 2)
        log.pop()
        self.assertIsNone(logs.first_error(RING, START, log))

    def test_repeated_replays_lead_to_equal_harbors(self):
        operations = copy.deepcopy(OPERATIONS)
        first = harbor.replay(RING, START, operations)
        second = harbor.replay(RING, START, operations)
        self.assertEqual(operations, OPERATIONS)
        self.assertEqual(show_course(first), show_course(second))
        first.undo()
        first.history().clear()
        first.apply_all([("cut", 0)]).clear()
        self.assertEqual(show_course(second), show_course(harbor.replay(RING, START, operations)))

    def test_errors_in_the_order_of_the_arguments(self):
        self.expect(InvalidFleet, fleets.broken_ropes, (0, ()), None, part="count", index=0)
        self.expect(InvalidFleet, fleets.chain_length, (2, None), 9, 9, part="ropes", index=0)
        self.expect(InvalidFleet, hauling.haul, None, None, None, None, part="fleet", index=0)
        self.expect(InvalidPositions, hauling.haul, RING, (0, 0, True), 9, None, index=2)
        self.expect(InvalidHaul, hauling.haul, RING, (0, 0, 0), 9, None, index=0)
        self.expect(InvalidPositions, hauling.least_positions, RING, None, None, index=0)
        self.expect(InvalidWishes, hauling.reachable_ranges, RING, (9, 9, 9), (0, 0), index=2)
        self.expect(InvalidWishes, hauling.greatest_positions, CLASH, None, index=0)
        self.expect(InvalidBarge, fleets.chain_length, CLASH, None, 0)
        self.expect(InvalidPositions, knots.needs_haul, RING, START, None, None, index=0)
        self.expect(InvalidRope, ropes.implied, CLASH, None)
        self.expect(InvalidFleet, ropes.missing_rope, CLASH, None, part="fleet", index=0)
        self.expect(InvalidPositions, logs.first_error, RING, None, None, index=0)
        self.expect(InvalidFleet, harbor.Harbor, (0, ()), None, part="count", index=0)
        self.expect(InvalidPositions, harbor.replay, CLASH, (0, None), None, index=1)
        self.expect(InvalidPositions, scripts.run_script, RING, None, "wrong", index=0)
        self.expect(InvalidPositions, notation.format_state, CLASH, None, index=0)
        self.expect(InvalidPositions, codec.encode_plan, CLASH, None, None, index=0)
        # The pairs stand before the positions, but the interface names the error of the positions first.
        self.expect(InvalidPositions, logs.shortest_ropes, 2, None, None, index=0)

    def test_crew_is_checked_behind_the_way_and_ahead_of_the_certificate(self):
        check = distances.check_certificate
        self.expect_crew([], InvalidFleet, check, None, None, None, None, part="fleet", index=0)
        self.expect_crew([], InvalidPositions, check, RING, (0, 0), None, None, index=2)
        self.expect_crew([], BrokenRope, check, RING, (6, 0, 0), None, None, index=0)
        self.expect_crew([], InvalidPositions, check, RING, START, (0, 0), None, index=2)
        self.expect_crew([], BrokenRope, check, RING, START, (6, 0, 0), None, index=0)
        self.expect_crew([], InvalidGoal, check, RING, START, (0, 0, -1), None, barge=2)
        self.expect_crew([], InvalidCrew, check, RING, START, GOAL, None, index=0)
        self.expect_crew((0,), CrewTooSmall, check, RING, START, GOAL, None, knot=(2,))
        self.expect_crew((0, 2), InvalidCertificate, check, RING, START, GOAL, None, index=0)


if __name__ == "__main__":
    unittest.main()
