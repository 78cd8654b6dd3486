"""Points 2, 3 and 4: fleets, positions, chains and circles."""

import unittest

from haulropes.distances import check_certificate, distance_certificate, least_distance, plan_shortest
from haulropes.errors import BrokenRope, Contradictory, InvalidBarge, InvalidFleet, InvalidPositions
from haulropes.fleets import broken_ropes, chain_length, find_circle, is_circle, taut_ropes
from haulropes.hauling import (
    dragged_barges, greatest_positions, haul, haul_all, least_positions, reachable_ranges, total_distance)
from haulropes.knots import (
    count_choices, fewest_hauls, find_knots, find_source_knots, moving_barges, needs_haul, plan_fewest)
from haulropes.logs import count_positions, first_error
from haulropes.ropes import counterexample, implied, missing_rope, reduce_ropes, redundant_ropes
from support import CLASH, NO_NUMBERS, RING, ErrorCase, is_contradictory, random_fleets, simple_chains


def goal_calls():
    """Return all functions with positions and a goal as calls with nothing but a fleet and these."""
    return (
        moving_barges, find_knots, find_source_knots, fewest_hauls, count_choices,
        lambda fleet, positions, goal: plan_fewest(fleet, positions, goal, crew=[]),
        lambda fleet, positions, goal: needs_haul(fleet, positions, goal, None),
        lambda fleet, positions, goal: least_distance(fleet, positions, goal, crew=[]),
        lambda fleet, positions, goal: plan_shortest(fleet, positions, goal, crew=[]),
        lambda fleet, positions, goal: distance_certificate(fleet, positions, goal, crew=[]),
        lambda fleet, positions, goal: check_certificate(fleet, positions, goal, None, crew=[]),
    )


def fleet_calls():
    """Return all functions with a fleet as calls with nothing but a fleet; other arguments are invalid."""
    return (
        lambda fleet: broken_ropes(fleet, None),
        lambda fleet: taut_ropes(fleet, None),
        lambda fleet: chain_length(fleet, None, None),
        find_circle,
        lambda fleet: is_circle(fleet, None),
        lambda fleet: haul(fleet, None, None, None),
        lambda fleet: haul_all(fleet, None, None),
        lambda fleet: total_distance(fleet, None, None),
        lambda fleet: dragged_barges(fleet, None, None, None),
        lambda fleet: least_positions(fleet, None, None),
        lambda fleet: greatest_positions(fleet, None),
        lambda fleet: reachable_ranges(fleet, None, None),
        lambda fleet: implied(fleet, None),
        lambda fleet: counterexample(fleet, None),
        redundant_ropes,
        reduce_ropes,
        lambda fleet: missing_rope(fleet, None),
        lambda fleet: missing_rope(RING, fleet),
        lambda fleet: first_error(fleet, None, None),
        lambda fleet: count_positions(fleet, None),
    ) + tuple([without_way(call) for call in goal_calls()])


def positions_calls():
    """Return all functions with positions as calls with a fleet and positions; the rest is invalid."""
    return (
        taut_ropes,
        lambda fleet, positions: haul(fleet, positions, None, None),
        lambda fleet, positions: haul_all(fleet, positions, None),
        lambda fleet, positions: total_distance(fleet, positions, None),
        lambda fleet, positions: dragged_barges(fleet, positions, None, None),
        lambda fleet, positions: least_positions(fleet, positions, None),
        lambda fleet, positions: reachable_ranges(fleet, positions, None),
        lambda fleet, positions: first_error(fleet, positions, None),
    ) + tuple([without_goal(call) for call in goal_calls()])


def without_way(call):
    """Return a call with a goal as one with nothing but a fleet."""
    return lambda fleet: call(fleet, None, None)


def without_goal(call):
    """Return a call with a goal as one with nothing but a fleet and positions."""
    return lambda fleet, positions: call(fleet, positions, None)


class FleetTest(ErrorCase):
    def expect_fleet(self, fleet, part, index):
        for call in fleet_calls():
            with self.subTest(fleet=fleet):
                self.expect(InvalidFleet, call, fleet, part=part, index=index)

    def test_not_a_tuple_of_two_items(self):
        for fleet in NO_NUMBERS + (0, 3, "ab", [3, ()], [2, ((0, 1, 5),)], (3,), (3, (), ()), ((3, ()),)):
            self.expect_fleet(fleet, "fleet", 0)

    def test_counts(self):
        for count in NO_NUMBERS + (0, 9, -1, 100, 2.0):
            self.expect_fleet((count, ()), "count", 0)
        for count in range(1, 9):
            self.assertIsNone(find_circle((count, ())))
            self.assertEqual(broken_ropes((count, ()), (0,) * count), [])

    def test_count_is_told_before_ropes(self):
        self.expect_fleet((0, None), "count", 0)
        self.expect_fleet((9, ((0, 0, 0),)), "count", 0)
        self.expect_fleet((True, [1]), "count", 0)

    def test_ropes_that_are_no_tuple(self):
        for ropes in (None, True, 0, 1.5, "", "abc", [], [(0, 1, 5)]):
            self.expect_fleet((2, ropes), "ropes", 0)

    def test_items_that_are_no_ropes(self):
        wrong = NO_NUMBERS + (
            0, "abc", [0, 1, 5], (0, 1), (0, 1, 5, 5), (0, 0, 5), (1, 1, 5), (0, 3, 5), (3, 0, 5), (-1, 0, 5),
            (0, -1, 5), (0, 1, -100), (0, 1, 100), (0, 1, 5.0), (0.0, 1, 5), (0, 1, None), (0, 1, "5"),
            (None, 1, 5), ("0", 1, 5), ((0,), 1, 5), ([0], 1, 5), (0, True, 5), (False, 1, 5), (0, 1, True))
        for rope in wrong:
            self.expect_fleet((3, (rope,)), "ropes", 0)
            self.expect_fleet((3, ((0, 1, 5), (1, 2, 5), rope)), "ropes", 2)

    def test_barges_that_the_fleet_does_not_have(self):
        self.expect_fleet((2, ((0, 1, 5), (1, 2, 5))), "ropes", 1)
        self.expect_fleet((1, ((0, 1, 5),)), "ropes", 0)
        self.assertIsNone(find_circle((8, ((7, 0, 5), (0, 7, 5)))))

    def test_lengths_at_the_bounds(self):
        fleet = (2, ((0, 1, -99), (1, 0, 99)))
        self.assertEqual(taut_ropes(fleet, (0, 99)), [0, 1])

    def test_the_41st_rope(self):
        ropes = ((0, 1, 5),) * 40
        self.assertEqual(broken_ropes((2, ropes), (6, 0)), list(range(40)))
        self.expect_fleet((2, ropes + ((0, 1, 5),)), "ropes", 40)
        self.expect_fleet((2, ropes + (None,)), "ropes", 40)
        self.expect_fleet((2, ropes + ropes), "ropes", 40)

    def test_first_wrong_item_is_told(self):
        self.expect_fleet((3, ((0, 1, 5), (0, 0, 5), None)), "ropes", 1)
        self.expect_fleet((2, ((0, 1, 5),) * 39 + ((0, 1, 100),) * 5), "ropes", 39)
        self.expect_fleet((2, (None,) + ((0, 1, 5),) * 50), "ropes", 0)


class PositionsTest(ErrorCase):
    def expect_positions(self, fleet, positions, index):
        for call in positions_calls() + (broken_ropes,):
            with self.subTest(positions=positions):
                self.expect(InvalidPositions, call, fleet, positions, index=index)

    def test_examples(self):
        self.assertEqual(broken_ropes(RING, (10, 4, 0)), [0])
        self.assertEqual(taut_ropes(RING, (10, 5, 5)), [0])
        self.expect(InvalidPositions, taut_ropes, RING, (10, 5), index=2)

    def test_not_a_tuple(self):
        for positions in (None, True, 0, 1.5, "", "abc", [], [0, 0, 0], [None, 0, 0]):
            self.expect_positions(RING, positions, 0)

    def test_invalid_items(self):
        for item in NO_NUMBERS + (10000, -10000, 99999):
            for index in range(3):
                positions = [0, 0, 0]
                positions[index] = item
                self.expect_positions(RING, tuple(positions), index)

    def test_missing_and_superfluous_items(self):
        self.expect_positions(RING, (), 0)
        self.expect_positions(RING, (0,), 1)
        self.expect_positions(RING, (0, 0), 2)
        self.expect_positions(RING, (0, 0, 0, 0), 3)
        self.expect_positions(RING, (0, 0, 0, None, 0), 3)
        self.expect_positions((1, ()), (0, 0), 1)

    def test_first_wrong_item_is_told(self):
        self.expect_positions(RING, (0, None, 10000), 1)
        self.expect_positions(RING, (0, None), 1)
        self.expect_positions(RING, (0, 0, None, 0), 2)

    def test_bounds(self):
        fleet = (2, ())
        self.assertEqual(broken_ropes(fleet, (-9999, 9999)), [])
        self.assertEqual(haul(fleet, (-9999, 9999), 0, -9998), (-9998, 9999))

    def test_invalid_positions_before_broken_ropes(self):
        self.expect_positions(RING, (100, 0, None), 2)
        self.expect_positions(RING, (100, 0, 0, 0), 3)

    def test_first_broken_rope_is_told(self):
        fleet = (3, ((0, 1, 50), (1, 2, -3), (2, 0, 5), (1, 0, 5)))
        for call in positions_calls():
            self.expect(BrokenRope, call, fleet, (0, 6, 0), index=1)
            self.expect(BrokenRope, call, fleet, (0, 6, 9), index=2)
            self.expect(BrokenRope, call, fleet, (0, 6, 5), index=1)
            self.expect(BrokenRope, call, RING, (6, 0, 0), index=0)

    def test_contradictory_fleets_always_have_a_broken_rope(self):
        for call in positions_calls():
            self.expect(BrokenRope, call, CLASH, (0, 0), index=1)
            self.expect(BrokenRope, call, CLASH, (4, 0), index=0)

    def test_broken_ropes(self):
        fleet = (2, ((0, 1, 5), (0, 1, 4), (1, 0, 0), (1, 0, -5), (1, 0, -6)))
        self.assertEqual(broken_ropes(fleet, (5, 0)), [1, 4])
        self.assertEqual(broken_ropes(fleet, (6, 0)), [0, 1])
        self.assertEqual(broken_ropes(fleet, (0, 0)), [3, 4])
        self.assertEqual(broken_ropes(fleet, (0, 1)), [2, 3, 4])
        self.assertEqual(broken_ropes(RING, (0, 0, 0)), [])
        self.assertEqual(broken_ropes((1, ()), (9999,)), [])

    def test_negative_lengths(self):
        fleet = (2, ((0, 1, -3),))
        self.assertEqual(broken_ropes(fleet, (0, 0)), [0])
        self.assertEqual(broken_ropes(fleet, (0, 2)), [0])
        self.assertEqual(broken_ropes(fleet, (0, 3)), [])
        self.assertEqual(taut_ropes(fleet, (0, 3)), [0])
        self.assertEqual(taut_ropes(fleet, (0, 4)), [])
        self.expect(BrokenRope, taut_ropes, fleet, (0, 2), index=0)

    def test_taut_ropes(self):
        fleet = (3, ((0, 1, 5), (1, 0, -5), (0, 1, 6), (2, 1, 0), (1, 2, 0), (0, 2, 5), (2, 0, -4)))
        self.assertEqual(taut_ropes(fleet, (5, 0, 0)), [0, 1, 3, 4, 5])
        self.assertEqual(taut_ropes((2, ((0, 1, 5),)), (4, 0)), [])
        self.assertEqual(taut_ropes((2, ()), (4, 0)), [])


class ChainTest(ErrorCase):
    def test_example(self):
        self.assertEqual(chain_length(RING, 0, 2), 10)

    def test_chain_without_ropes(self):
        for barge in range(3):
            self.assertEqual(chain_length(RING, barge, barge), 0)
        self.assertEqual(chain_length((1, ()), 0, 0), 0)
        self.assertEqual(chain_length((2, ((0, 1, 5), (1, 0, -5))), 1, 1), 0)

    def test_no_chain(self):
        fleet = (4, ((0, 1, 5), (1, 2, 5)))
        self.assertIsNone(chain_length(fleet, 2, 0))
        self.assertIsNone(chain_length(fleet, 1, 0))
        self.assertIsNone(chain_length(fleet, 0, 3))
        self.assertIsNone(chain_length(fleet, 3, 0))
        self.assertIsNone(chain_length((2, ()), 0, 1))
        self.assertEqual(chain_length(fleet, 0, 2), 10)

    def test_length_zero_is_not_none(self):
        self.assertEqual(chain_length((2, ((0, 1, 0),)), 0, 1), 0)

    def test_several_ropes_between_the_same_barges(self):
        fleet = (2, ((0, 1, 7), (0, 1, -2), (0, 1, 3), (1, 0, 9)))
        self.assertEqual(chain_length(fleet, 0, 1), -2)
        self.assertEqual(chain_length(fleet, 1, 0), 9)

    def test_detours(self):
        fleet = (4, ((0, 3, 10), (0, 1, 9), (1, 2, -9), (2, 3, 5)))
        self.assertEqual(chain_length(fleet, 0, 3), 5)
        self.assertEqual(chain_length(fleet, 1, 3), -4)
        self.assertEqual(chain_length((4, fleet[1][:1] + fleet[1][2:]), 0, 3), 10)

    def test_longest_chains(self):
        ropes = tuple([(barge, barge + 1, -99) for barge in range(7)])
        self.assertEqual(chain_length((8, ropes), 0, 7), -693)
        ropes = tuple([(barge + 1, barge, 99) for barge in range(7)])
        self.assertEqual(chain_length((8, ropes), 7, 0), 693)

    def test_invalid_barges(self):
        for barge in NO_NUMBERS + (-1, 3, 8, 100):
            self.expect(InvalidBarge, chain_length, RING, barge, 0)
            self.expect(InvalidBarge, chain_length, RING, 0, barge)

    def test_invalid_barge_before_contradictory(self):
        self.expect(InvalidBarge, chain_length, CLASH, 2, 0)
        self.expect(InvalidBarge, chain_length, CLASH, 0, True)
        self.expect(Contradictory, chain_length, CLASH, 0, 1)
        self.expect(Contradictory, chain_length, CLASH, 0, 0)

    def test_contradiction_elsewhere(self):
        fleet = (4, ((0, 1, 5), (2, 3, -1), (3, 2, 0)))
        self.expect(Contradictory, chain_length, fleet, 0, 1)
        self.expect(Contradictory, chain_length, fleet, 1, 0)

    def test_circle_of_length_zero(self):
        fleet = (2, ((0, 1, 3), (1, 0, -3)))
        self.assertEqual(chain_length(fleet, 0, 1), 3)
        self.assertEqual(chain_length(fleet, 1, 0), -3)
        self.assertIsNone(find_circle(fleet))

    def test_against_all_paths(self):
        for fleet in random_fleets(300):
            contradictory = is_contradictory(fleet)
            for front in range(fleet[0]):
                for rear in range(fleet[0]):
                    if contradictory:
                        self.expect(Contradictory, chain_length, fleet, front, rear)
                    else:
                        expected = min(simple_chains(fleet, front, rear), default=None)
                        self.assertEqual(chain_length(fleet, front, rear), expected)


class CircleTest(ErrorCase):
    def test_examples(self):
        self.assertIs(is_circle(CLASH, find_circle(CLASH)), True)
        self.assertIsNone(find_circle(RING))
        self.assertIs(is_circle(RING, [0, 1, 2]), False)

    def test_no_circle(self):
        self.assertIsNone(find_circle((1, ())))
        self.assertIsNone(find_circle((8, ((0, 1, -99), (1, 2, -99), (0, 2, -99)))))

    def test_circle_of_length_zero(self):
        fleet = (3, ((0, 1, -5), (1, 2, 3), (2, 0, 2)))
        self.assertIsNone(find_circle(fleet))
        self.assertIs(is_circle(fleet, [0, 1, 2]), False)

    def test_circle_behind_a_chain(self):
        fleet = (5, ((0, 1, -99), (1, 2, -99), (2, 3, 4), (3, 4, -3), (4, 2, -2)))
        circle = find_circle(fleet)
        self.assertEqual(sorted(circle), [2, 3, 4])
        self.assertIs(is_circle(fleet, circle), True)

    def test_circle_through_all_barges(self):
        ropes = tuple([(barge, barge + 1, 5) for barge in range(7)])
        self.assertIsNone(find_circle((8, ropes + ((7, 0, -35),))))
        self.assertEqual(sorted(find_circle((8, ropes + ((7, 0, -36),)))), list(range(8)))
        ropes = [(barge, (barge + 1) % 8, 0) for barge in range(8)]
        self.assertIsNone(find_circle((8, tuple(ropes))))
        ropes[5] = (5, 6, -1)
        circle = find_circle((8, tuple(ropes)))
        self.assertEqual(sorted(circle), list(range(8)))
        self.assertIs(is_circle((8, tuple(ropes)), circle), True)

    def test_found_exactly_in_contradictory_fleets(self):
        contradictory = 0
        for fleet in random_fleets(600):
            circle = find_circle(fleet)
            if is_contradictory(fleet):
                contradictory += 1
                self.assertIs(type(circle), list)
                self.assertIs(is_circle(fleet, circle), True)
            else:
                self.assertIsNone(circle)
        self.assertGreater(contradictory, 50)
        self.assertLess(contradictory, 550)

    def test_order_and_beginning(self):
        fleet = (3, ((0, 1, -5), (1, 2, 3), (2, 0, 1)))
        for circle in ([0, 1, 2], [1, 2, 0], [2, 0, 1]):
            self.assertIs(is_circle(fleet, circle), True)
        for circle in ([0, 2, 1], [2, 1, 0], [1, 0, 2]):
            self.assertIs(is_circle(fleet, circle), False)

    def test_open_chains(self):
        fleet = (3, ((0, 1, -5), (1, 2, -3), (2, 0, -1)))
        for circle in ([0], [0, 1], [1, 2], [0, 1, 2, 0], [0, 0]):
            self.assertIs(is_circle(fleet, circle), False)

    def test_ropes_several_times(self):
        self.assertIs(is_circle(CLASH, [0, 1, 0, 1]), True)
        self.assertIs(is_circle(CLASH, [0, 1, 0]), False)
        fleet = (3, ((0, 1, -2), (1, 0, 1), (0, 2, 0), (2, 0, 2)))
        self.assertIs(is_circle(fleet, [0, 1, 0, 1, 2, 3]), False)
        self.assertIs(is_circle(fleet, [0, 1, 2, 3, 0, 1, 0, 1]), True)

    def test_several_ropes_between_the_same_barges(self):
        fleet = (2, ((0, 1, 3), (0, 1, 2), (1, 0, -3)))
        self.assertEqual(sorted(find_circle(fleet)), [1, 2])
        self.assertIs(is_circle(fleet, [0, 2]), False)
        self.assertIs(is_circle(fleet, [2, 1]), True)

    def test_unknown_indexes(self):
        for index in NO_NUMBERS + (2, -1, -2, 40):
            self.assertIs(is_circle(CLASH, [0, index]), False)
            self.assertIs(is_circle(CLASH, [index]), False)
        self.assertIs(is_circle((2, ((0, 1, -3), (1, 0, -3))), [False, True]), False)

    def test_empty_list_and_no_list(self):
        for circle in NO_NUMBERS + (0, (0, 1), {0: 1, 1: 0}, "01"):
            self.assertIs(is_circle(CLASH, circle), False)
        self.assertIs(is_circle((1, ()), []), False)
        self.assertIs(is_circle((1, ()), [0]), False)


if __name__ == "__main__":
    unittest.main()
