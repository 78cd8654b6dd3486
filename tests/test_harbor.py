"""Point 13: harbors and their operations."""

import unittest

from haulropes.distances import least_distance
from haulropes.errors import (
    BrokenRope, InvalidFleet, InvalidGoal, InvalidHaul, InvalidPositions, InvalidRope, UnknownRope)
from haulropes.harbor import Harbor
from haulropes.hauling import haul
from support import CLASH, NO_NUMBERS, RING, HarborCase, calm_fleets, random_ways, show_state

START = (10, 5, 5)
# Two barges of which barge 1 lies at least 50 ahead of barge 0.
AHEAD = (2, ((0, 1, -50),))
# 40 ropes between two barges, all of which positions (0, 0) satisfy.
FULL = (2, ((0, 1, 5), (1, 0, 5)) * 20)


def drag_beyond():
    """Return a harbor in which a barge is dragged beyond 9999."""
    harbor = Harbor((3, ((0, 1, -50), (2, 0, 20))), (0, 50, 0))
    harbor.haul_barge(0, 9960)
    return harbor


class PlaceCase(HarborCase):
    def expect_state(self, harbor, fleet, positions, distance):
        """Check what a harbor holds."""
        state = (harbor.current_fleet(), harbor.current_positions(), harbor.distance())
        self.assertEqual(state, (fleet, positions, distance))


class CreationTest(PlaceCase):
    def test_holds_what_it_is_made_of(self):
        harbor = Harbor(RING, START)
        self.expect_state(harbor, RING, START, 0)
        self.assertEqual(harbor.history(), [])
        self.assertEqual(harbor.checkpoints(), [])
        self.assertIs(harbor.is_busy(), False)
        self.expect_state(Harbor((1, ()), (-9999,)), (1, ()), (-9999,), 0)

    def test_errors_in_their_order(self):
        self.expect(InvalidFleet, Harbor, None, None, part="fleet", index=0)
        self.expect(InvalidFleet, Harbor, (9, ()), None, part="count", index=0)
        self.expect(InvalidFleet, Harbor, (2, ((0, 1, 5), (0, 0, 5))), (0,), part="ropes", index=1)
        self.expect(InvalidFleet, Harbor, (2, FULL[1] + ((0, 1, 5),)), (0, 0), part="ropes", index=40)
        self.expect(InvalidPositions, Harbor, RING, [10, 5, 5], index=0)
        self.expect(InvalidPositions, Harbor, RING, (10, 4, True), index=2)
        self.expect(InvalidPositions, Harbor, RING, (10, 4), index=2)
        self.expect(InvalidPositions, Harbor, (1, ()), (10000,), index=0)
        self.expect(BrokenRope, Harbor, RING, (10, 4, 4), index=0)
        self.expect(BrokenRope, Harbor, CLASH, (0, 0), index=1)

    def test_harbors_do_not_mix(self):
        first = Harbor(RING, START)
        second = Harbor(RING, START)
        first.haul_barge(0, 14)
        first.save("a")
        self.expect_state(second, RING, START, 0)
        self.assertEqual((second.history(), second.checkpoints()), ([], []))


class HaulTest(PlaceCase):
    def test_examples(self):
        self.assertEqual(Harbor(RING, START).haul_barge(0, 14), (14, 9, 5))
        self.expect(InvalidHaul, Harbor(RING, START).haul_barge, 0, 9, index=0)
        harbor = Harbor(RING, START)
        harbor.haul_barge(0, 14)
        self.assertEqual([harbor.current_positions(), harbor.distance()], [(14, 9, 5), 4])

    def test_distances_of_dragged_barges_do_not_count(self):
        harbor = Harbor(RING, START)
        self.assertEqual(harbor.haul_barge(0, 20), (20, 15, 10))
        self.expect_state(harbor, RING, (20, 15, 10), 10)
        self.assertEqual(harbor.haul_barge(2, 12), (20, 15, 12))
        self.expect_state(harbor, RING, (20, 15, 12), 12)
        self.assertEqual(harbor.haul_barge(1, 15), (20, 15, 12))
        self.expect_state(harbor, RING, (20, 15, 12), 12)
        self.assertEqual(harbor.history(), [("haul", 0, 20), ("haul", 2, 12), ("haul", 1, 15)])

    def test_edges_of_positions(self):
        harbor = Harbor((1, ()), (-9999,))
        self.assertEqual(harbor.haul_barge(0, -9999), (-9999,))
        self.expect_unchanged(harbor, InvalidHaul, harbor.haul_barge, 0, 10000, index=0)
        self.expect_unchanged(harbor, InvalidHaul, harbor.haul_barge, 0, -10000, index=0)
        self.assertEqual(harbor.haul_barge(0, 9999), (9999,))
        self.expect_state(harbor, (1, ()), (9999,), 19998)

    def test_wrong_arguments(self):
        harbor = Harbor(RING, START)
        harbor.haul_barge(0, 14)
        for value in NO_NUMBERS + (3, -1):
            self.expect_unchanged(harbor, InvalidHaul, harbor.haul_barge, value, 20, index=0)
        for value in NO_NUMBERS + (13, 10000):
            self.expect_unchanged(harbor, InvalidHaul, harbor.haul_barge, 0, value, index=0)

    def test_against_haul(self):
        for fleet, positions in calm_fleets(60):
            harbor = Harbor(fleet, positions)
            total = 0
            for barge in range(fleet[0]):
                before = harbor.current_positions()
                after = haul(fleet, before, barge, before[barge] + 7)
                total += 7
                self.assertEqual(harbor.haul_barge(barge, before[barge] + 7), after)
                self.expect_state(harbor, fleet, after, total)


class TieTest(PlaceCase):
    def test_examples(self):
        self.assertEqual(Harbor(RING, START).tie_rope((0, 2, 7)), 3)
        self.expect(BrokenRope, Harbor(RING, START).tie_rope, (0, 2, 4), index=3)

    def test_rope_stands_at_the_end_and_drags(self):
        harbor = Harbor(RING, START)
        self.assertEqual(harbor.tie_rope((0, 2, 5)), 3)
        self.expect_state(harbor, (3, RING[1] + ((0, 2, 5),)), START, 0)
        self.assertEqual(harbor.tie_rope((1, 0, -5)), 4)
        self.expect_state(harbor, (3, RING[1] + ((0, 2, 5), (1, 0, -5))), START, 0)
        self.assertEqual(harbor.history(), [("tie", (0, 2, 5)), ("tie", (1, 0, -5))])
        self.assertEqual(harbor.haul_barge(0, 11), (11, 6, 6))
        self.assertEqual(Harbor((2, ()), (0, 0)).tie_rope((1, 0, 0)), 0)

    def test_no_ropes(self):
        harbor = Harbor(RING, START)
        wrong = NO_NUMBERS + (
            0, (0, 1), (0, 1, 5, 5), [0, 1, 5], (0, 0, 5), (0, 3, 5), (-1, 0, 5), (True, 0, 5), (0, True, 5),
            (0, 1, True), (0, 1, 100), (0, 1, -100), (0, 1, None), "015")
        for rope in wrong:
            self.expect_unchanged(harbor, InvalidRope, harbor.tie_rope, rope)

    def test_edges_of_lengths(self):
        harbor = Harbor((2, ()), (0, 99))
        self.assertEqual(harbor.tie_rope((0, 1, -99)), 0)
        self.assertEqual(harbor.tie_rope((1, 0, 99)), 1)
        self.expect_unchanged(harbor, BrokenRope, harbor.tie_rope, (1, 0, 98), index=2)

    def test_41st_rope(self):
        harbor = Harbor((2, FULL[1][:39]), (0, 0))
        self.assertEqual(harbor.tie_rope((1, 0, 5)), 39)
        self.assertEqual(harbor.current_fleet(), FULL)
        self.expect_unchanged(harbor, InvalidFleet, harbor.tie_rope, (0, 1, 5), part="ropes", index=40)
        harbor.cut_rope(0)
        self.assertEqual(harbor.tie_rope((0, 1, 0)), 39)

    def test_errors_in_their_order(self):
        harbor = Harbor(FULL, (0, 0))
        self.expect_unchanged(harbor, InvalidRope, harbor.tie_rope, (0, 1, 100))
        self.expect_unchanged(harbor, InvalidFleet, harbor.tie_rope, (0, 1, -1), part="ropes", index=40)


class CutTest(PlaceCase):
    def test_example(self):
        harbor = Harbor(RING, START)
        self.assertEqual([harbor.cut_rope(1), harbor.current_fleet()], [(1, 2, 5), (3, ((0, 1, 5), (2, 0, 5)))])

    def test_indexes_of_later_ropes(self):
        harbor = Harbor((2, ((0, 1, 6), (0, 1, 7), (0, 1, 8), (0, 1, 9))), (0, 0))
        self.assertEqual(harbor.cut_rope(1), (0, 1, 7))
        self.assertEqual(harbor.cut_rope(1), (0, 1, 8))
        self.assertEqual(harbor.cut_rope(0), (0, 1, 6))
        self.assertEqual(harbor.cut_rope(0), (0, 1, 9))
        self.expect_state(harbor, (2, ()), (0, 0), 0)
        self.expect_unchanged(harbor, UnknownRope, harbor.cut_rope, 0)
        self.assertEqual(harbor.history(), [("cut", 1), ("cut", 1), ("cut", 0), ("cut", 0)])

    def test_a_cut_rope_drags_no_longer(self):
        harbor = Harbor(RING, START)
        harbor.cut_rope(0)
        self.assertEqual(harbor.haul_barge(0, 30), (30, 5, 5))

    def test_indexes_that_no_rope_has(self):
        harbor = Harbor(RING, START)
        for index in NO_NUMBERS + (3, -1, 40):
            self.expect_unchanged(harbor, UnknownRope, harbor.cut_rope, index)
        self.assertEqual(harbor.cut_rope(2), (2, 0, 5))


class ChangeTest(PlaceCase):
    def test_example(self):
        self.assertEqual(Harbor(RING, START).change_length(2, -5), 5)

    def test_fleet_afterwards(self):
        harbor = Harbor(RING, START)
        self.assertEqual(harbor.change_length(1, 99), 5)
        self.assertEqual(harbor.change_length(1, 0), 99)
        self.assertEqual(harbor.change_length(0, 6), 5)
        self.expect_state(harbor, (3, ((0, 1, 6), (1, 2, 0), (2, 0, 5))), START, 0)
        self.assertEqual(harbor.history(), [("change", 1, 99), ("change", 1, 0), ("change", 0, 6)])
        self.assertEqual(harbor.haul_barge(0, 12), (12, 6, 6))

    def test_edges_of_lengths(self):
        harbor = Harbor((2, ((0, 1, 0),)), (0, 99))
        self.assertEqual(harbor.change_length(0, -99), 0)
        self.assertEqual(harbor.change_length(0, 99), -99)
        for length in NO_NUMBERS + (100, -100):
            self.expect_unchanged(harbor, InvalidRope, harbor.change_length, 0, length)

    def test_positions_that_do_not_satisfy_the_rope(self):
        harbor = Harbor(RING, START)
        self.expect_unchanged(harbor, BrokenRope, harbor.change_length, 0, 4, index=0)
        self.expect_unchanged(harbor, BrokenRope, harbor.change_length, 1, -1, index=1)
        self.expect_unchanged(harbor, BrokenRope, harbor.change_length, 2, -6, index=2)

    def test_indexes_that_no_rope_has(self):
        harbor = Harbor(RING, START)
        for index in NO_NUMBERS + (3, -1):
            self.expect_unchanged(harbor, UnknownRope, harbor.change_length, index, 5)

    def test_errors_in_their_order(self):
        harbor = Harbor(RING, START)
        self.expect_unchanged(harbor, UnknownRope, harbor.change_length, 3, 100)
        self.expect_unchanged(harbor, UnknownRope, harbor.change_length, True, True)
        self.expect_unchanged(harbor, InvalidRope, harbor.change_length, 0, True)
        self.expect_unchanged(harbor, InvalidRope, harbor.change_length, 0, -100)


class ReachTest(PlaceCase):
    def test_example(self):
        harbor = Harbor(RING, START)
        self.assertEqual([harbor.reach((14, 9, 5)), harbor.distance()], [4, 4])
        self.expect_state(harbor, RING, (14, 9, 5), 4)
        self.assertEqual(harbor.history(), [("reach", (14, 9, 5))])

    def test_distances_add_up(self):
        harbor = Harbor(RING, (0, 0, 0))
        self.assertEqual(harbor.reach((10, 5, 5)), 15)
        self.assertEqual(harbor.haul_barge(0, 14), (14, 9, 5))
        self.assertEqual(harbor.reach((14, 9, 5)), 0)
        self.assertEqual(harbor.reach((14, 10, 6)), 2)
        self.expect_state(harbor, RING, (14, 10, 6), 21)

    def test_wrong_goals(self):
        harbor = Harbor(RING, START)
        harbor.haul_barge(0, 14)
        for goal in NO_NUMBERS + (0, [14, 9, 5], (True, 9, 5), (10000, 9, 5)):
            if goal != (1,):
                self.expect_unchanged(harbor, InvalidPositions, harbor.reach, goal, index=0)
        self.expect_unchanged(harbor, InvalidPositions, harbor.reach, (1,), index=1)
        self.expect_unchanged(harbor, InvalidPositions, harbor.reach, (14, 9), index=2)
        self.expect_unchanged(harbor, InvalidPositions, harbor.reach, (14, 9, 5, 5), index=3)
        self.expect_unchanged(harbor, BrokenRope, harbor.reach, (14, 8, 5), index=0)
        self.expect_unchanged(harbor, BrokenRope, harbor.reach, (0, 0, 6), index=2)
        self.expect_unchanged(harbor, InvalidGoal, harbor.reach, (14, 9, 4), barge=2)
        self.expect_unchanged(harbor, InvalidGoal, harbor.reach, (0, 0, 0), barge=0)

    def test_edges_of_positions(self):
        harbor = Harbor((1, ()), (-9999,))
        self.assertEqual(harbor.reach((9999,)), 19998)
        self.expect_state(harbor, (1, ()), (9999,), 19998)

    def test_against_least_distance(self):
        for fleet, positions, goal in random_ways(100):
            harbor = Harbor(fleet, positions)
            way = least_distance(fleet, positions, goal)
            self.assertEqual(harbor.reach(goal), way)
            self.expect_state(harbor, fleet, goal, way)


class BeyondTest(PlaceCase):
    def test_haul_drags_beyond(self):
        harbor = Harbor(AHEAD, (0, 50))
        self.assertEqual(harbor.haul_barge(0, 9949), (9949, 9999))
        self.assertEqual(harbor.haul_barge(0, 9950), (9950, 10000))
        self.expect_state(harbor, AHEAD, (9950, 10000), 9950)

    def test_operations_raise_invalid_positions(self):
        harbor = drag_beyond()
        self.assertEqual(harbor.current_positions(), (9960, 10010, 0))
        calls = (
            (harbor.haul_barge, (0, 9960)), (harbor.haul_barge, (2, 5)), (harbor.tie_rope, ((0, 1, 99),)),
            (harbor.cut_rope, (0,)), (harbor.change_length, (0, 99)), (harbor.reach, ((9960, 10010, 0),)),
            (harbor.reach, ((9960, 9999, 0),)))
        for call, arguments in calls:
            self.expect_unchanged(harbor, InvalidPositions, call, *arguments, index=1)

    def test_errors_of_ropes_and_indexes_come_first(self):
        harbor = drag_beyond()
        self.expect_unchanged(harbor, InvalidRope, harbor.tie_rope, (0, 1, 100))
        self.expect_unchanged(harbor, UnknownRope, harbor.cut_rope, 2)
        self.expect_unchanged(harbor, UnknownRope, harbor.change_length, 2, 100)
        self.expect_unchanged(harbor, InvalidRope, harbor.change_length, 0, 100)

    def test_other_errors_come_later(self):
        harbor = drag_beyond()
        self.expect_unchanged(harbor, InvalidPositions, harbor.haul_barge, 9, None, index=1)
        self.expect_unchanged(harbor, InvalidPositions, harbor.tie_rope, (0, 1, -99), index=1)
        self.expect_unchanged(harbor, InvalidPositions, harbor.change_length, 0, -99, index=1)
        self.expect_unchanged(harbor, InvalidPositions, harbor.reach, None, index=1)
        self.expect_unchanged(harbor, InvalidPositions, harbor.reach, (0, 50, 0), index=1)

    def test_41st_rope(self):
        harbor = Harbor((2, AHEAD[1] * 40), (0, 50))
        harbor.haul_barge(0, 9999)
        self.expect_unchanged(harbor, InvalidRope, harbor.tie_rope, None)
        self.expect_unchanged(harbor, InvalidPositions, harbor.tie_rope, (0, 1, -50), index=1)

    def test_undo_and_redo_still_work(self):
        harbor = drag_beyond()
        self.assertIs(harbor.redo(), False)
        self.assertIs(harbor.undo(), True)
        self.assertEqual((harbor.current_positions(), harbor.distance()), ((0, 50, 0), 0))
        self.assertIs(harbor.redo(), True)
        self.assertEqual((harbor.current_positions(), harbor.distance()), ((9960, 10010, 0), 9960))
        harbor.undo()
        self.assertEqual(harbor.haul_barge(0, 10), (10, 60, 0))

    def test_checkpoints_and_lists_of_operations_still_work(self):
        harbor = drag_beyond()
        harbor.save("far")
        self.assertEqual(harbor.apply_all([]), [])
        self.expect_unchanged(harbor, InvalidPositions, harbor.apply_all, [("cut", 0)], index=1)
        self.expect_unchanged(harbor, UnknownRope, harbor.apply_all, [("cut", 2)])
        shown = show_state(harbor)
        harbor.undo()
        harbor.restore("far")
        self.assertEqual(show_state(harbor), shown)

    def test_first_barge_beyond_is_told(self):
        harbor = Harbor((3, ((1, 0, -1), (1, 2, -50))), (1, 0, 50))
        self.assertEqual(harbor.haul_barge(1, 9999), (10000, 9999, 10049))
        self.expect_unchanged(harbor, InvalidPositions, harbor.cut_rope, 0, index=0)


class FailureTest(PlaceCase):
    def test_failing_operations_do_not_change_what_redo_does(self):
        harbor = Harbor(RING, START)
        harbor.haul_barge(0, 14)
        harbor.tie_rope((0, 2, 20))
        harbor.cut_rope(0)
        harbor.undo()
        harbor.undo()
        self.expect_unchanged(harbor, InvalidHaul, harbor.haul_barge, 0, 13, index=0)
        self.expect_unchanged(harbor, BrokenRope, harbor.tie_rope, (0, 2, 8), index=3)
        self.expect_unchanged(harbor, UnknownRope, harbor.cut_rope, 3)
        self.expect_unchanged(harbor, BrokenRope, harbor.change_length, 0, 4, index=0)
        self.expect_unchanged(harbor, InvalidGoal, harbor.reach, START, barge=0)
        self.assertEqual([harbor.redo(), harbor.redo(), harbor.redo()], [True, True, False])
        self.assertEqual(harbor.history(), [("haul", 0, 14), ("tie", (0, 2, 20)), ("cut", 0)])
        self.expect_state(harbor, (3, ((1, 2, 5), (2, 0, 5), (0, 2, 20))), (14, 9, 5), 4)


if __name__ == "__main__":
    unittest.main()
