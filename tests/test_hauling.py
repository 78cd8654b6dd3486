"""Points 5 and 6: hauls, wishes and limits."""

import itertools
import unittest

from haulropes.errors import BrokenRope, Contradictory, InvalidHaul, InvalidPositions, InvalidWishes
from haulropes.fleets import broken_ropes
from haulropes.hauling import (
    dragged_barges, greatest_positions, haul, haul_all, least_positions, reachable_ranges, total_distance)
from support import CLASH, NO_NUMBERS, RING, ErrorCase, calm_fleets, settle

# Barge 1 stays ahead of barge 0 by 2 to 4, and barge 2 of barge 1 by at least 3.
AHEAD = (3, ((0, 1, -2), (1, 0, 4), (1, 2, -3)))


class HaulTest(ErrorCase):
    def expect_haul(self, fleet, positions, barge, position):
        """Check that no function accepts this haul, neither alone nor as the first one of a list."""
        self.expect(InvalidHaul, haul, fleet, positions, barge, position, index=0)
        self.expect(InvalidHaul, dragged_barges, fleet, positions, barge, position, index=0)
        for call in (haul_all, total_distance):
            self.expect(InvalidHaul, call, fleet, positions, [(barge, position)], index=0)
            self.expect(InvalidHaul, call, fleet, positions, [(barge, position), None], index=0)

    def test_examples(self):
        self.assertEqual(haul(RING, (0, 0, 0), 0, 12), (12, 7, 2))
        self.expect(InvalidHaul, haul, RING, (0, 0, 0), 0, -1, index=0)
        self.assertEqual(haul_all(RING, (0, 0, 0), [(0, 8), (2, 6)]), (8, 3, 6))
        self.assertEqual(total_distance(RING, (0, 0, 0), [(0, 8), (1, 6)]), 11)
        self.assertEqual(dragged_barges(RING, (0, 0, 0), 0, 8), [1])

    def test_haul_without_effect(self):
        self.assertEqual(haul(RING, (3, 1, 2), 1, 1), (3, 1, 2))
        self.assertEqual(dragged_barges(RING, (3, 1, 2), 1, 1), [])
        self.assertEqual(total_distance(RING, (3, 1, 2), [(1, 1), (0, 3)]), 0)

    def test_behind_the_current_position(self):
        self.expect_haul(RING, (3, 1, 2), 0, 2)
        self.expect_haul(RING, (3, 1, 2), 1, -9999)
        self.expect_haul((1, ()), (-5,), 0, -6)
        self.assertEqual(haul((1, ()), (-5,), 0, -5), (-5,))

    def test_farthest_position(self):
        self.assertEqual(haul(RING, (0, 0, 0), 0, 9999), (9999, 9994, 9989))
        self.assertEqual(haul((1, ()), (-9999,), 0, 9999), (9999,))
        self.expect_haul(RING, (0, 0, 0), 0, 10000)
        self.expect_haul((1, ()), (9999,), 0, 10000)
        self.assertEqual(total_distance((1, ()), (-9999,), [(0, 9999)]), 19998)

    def test_no_barges(self):
        for barge in NO_NUMBERS + (-1, 3, 8):
            self.expect_haul(RING, (0, 0, 0), barge, 5)

    def test_no_positions(self):
        for position in NO_NUMBERS:
            self.expect_haul(RING, (0, 0, 0), 0, position)

    def test_no_hauls(self):
        for step in NO_NUMBERS + (0, (0,), (0, 5, 5), [0, 5], "05"):
            for call in (haul_all, total_distance):
                self.expect(InvalidHaul, call, RING, (0, 0, 0), [step], index=0)
                self.expect(InvalidHaul, call, RING, (0, 0, 0), [(0, 5), (0, 6), step], index=2)

    def test_no_list(self):
        for hauls in (None, True, 0, 1.5, "", "abc", (), ((0, 5),), ((0, -5),)):
            self.expect(InvalidHaul, haul_all, RING, (0, 0, 0), hauls, index=0)
            self.expect(InvalidHaul, total_distance, RING, (0, 0, 0), hauls, index=0)

    def test_empty_list(self):
        self.assertEqual(haul_all(RING, (1, 2, 3), []), (1, 2, 3))
        self.assertEqual(total_distance(RING, (1, 2, 3), []), 0)

    def test_haul_that_is_invalid_at_its_moment(self):
        for call in (haul_all, total_distance):
            # The first haul drags barge 1 to 7.
            self.expect(InvalidHaul, call, RING, (0, 0, 0), [(0, 12), (1, 6)], index=1)
            self.expect(InvalidHaul, call, RING, (0, 0, 0), [(0, 12), (1, 7), (0, 11), (0, 0)], index=2)
            self.expect(InvalidHaul, call, RING, (0, 0, 0), [(0, 12), (1, 7), (0, 12), (3, 0)], index=3)
        self.assertEqual(haul_all(RING, (0, 0, 0), [(0, 12), (1, 7)]), (12, 7, 2))
        self.assertEqual(total_distance(RING, (0, 0, 0), [(0, 12), (1, 7), (1, 8)]), 13)

    def test_positions_are_checked_first(self):
        for call in (haul_all, total_distance):
            self.expect(InvalidPositions, call, RING, (0, 0), None, index=2)
            self.expect(BrokenRope, call, RING, (6, 0, 0), [None], index=0)
        for call in (haul, dragged_barges):
            self.expect(InvalidPositions, call, RING, (0, 0, 10000), 9, None, index=2)
            self.expect(BrokenRope, call, RING, (6, 0, 0), 0, 0, index=0)

    def test_chain_of_drags(self):
        ropes = tuple([(barge, barge + 1, 2) for barge in range(7)])
        self.assertEqual(haul((8, ropes), (0,) * 8, 0, 9), (9, 7, 5, 3, 1, 0, 0, 0))
        self.assertEqual(dragged_barges((8, ropes), (0,) * 8, 0, 9), [1, 2, 3, 4])
        self.assertEqual(dragged_barges((8, ropes), (0,) * 8, 7, 9), [])
        # The order of the ropes does not matter.
        self.assertEqual(haul((8, ropes[::-1]), (0,) * 8, 0, 9), (9, 7, 5, 3, 1, 0, 0, 0))

    def test_dragged_barges_ascend(self):
        fleet = (4, ((2, 3, 1), (2, 0, 1), (0, 1, 1)))
        self.assertEqual(haul(fleet, (0, 0, 0, 0), 2, 5), (4, 3, 5, 4))
        self.assertEqual(dragged_barges(fleet, (0, 0, 0, 0), 2, 5), [0, 1, 3])

    def test_slack_rope_in_between(self):
        fleet = (3, ((0, 1, 5), (1, 2, 5)))
        self.assertEqual(haul(fleet, (0, 0, -5), 0, 5), (5, 0, -5))
        self.assertEqual(haul(fleet, (0, 0, -5), 0, 6), (6, 1, -4))
        self.assertEqual(haul(fleet, (0, 3, 0), 0, 9), (9, 4, 0))

    def test_negative_lengths(self):
        self.assertEqual(haul(AHEAD, (0, 2, 5), 0, 1), (1, 3, 6))
        self.assertEqual(haul(AHEAD, (0, 2, 5), 1, 4), (0, 4, 7))
        self.assertEqual(haul(AHEAD, (0, 2, 5), 1, 6), (2, 6, 9))
        self.assertEqual(haul(AHEAD, (0, 2, 5), 2, 99), (0, 2, 99))
        self.assertEqual(dragged_barges(AHEAD, (0, 2, 9), 1, 5), [0])

    def test_circles(self):
        fleet = (3, ((0, 1, 3), (1, 2, -4), (2, 0, 1)))
        self.assertEqual(haul(fleet, (3, 0, 4), 1, 10), (13, 10, 14))
        self.assertEqual(haul(fleet, (3, 0, 4), 2, 5), (4, 1, 5))
        self.assertEqual(dragged_barges(fleet, (3, 0, 4), 0, 4), [1, 2])
        self.assertEqual(haul(RING, (0, 0, 0), 2, 100), (95, 90, 100))

    def test_dragged_beyond_the_farthest_position(self):
        self.assertEqual(haul(AHEAD, (0, 2, 5), 0, 9999), (9999, 10001, 10004))
        self.assertEqual(dragged_barges(AHEAD, (0, 2, 5), 0, 9999), [1, 2])
        for call in (haul_all, total_distance):
            # No position of barge 1 is both from 10001 on and at most 9999.
            self.expect(InvalidHaul, call, AHEAD, (0, 2, 5), [(0, 9999), (1, 10001)], index=1)
            self.expect(InvalidHaul, call, AHEAD, (0, 2, 5), [(0, 9999), (1, 9999)], index=1)
            self.expect(InvalidHaul, call, AHEAD, (0, 2, 5), [(0, 9999), (0, 9999), (2, 10004)], index=2)
        self.assertEqual(haul_all(AHEAD, (0, 2, 5), [(0, 9998), (0, 9999)]), (9999, 10001, 10004))
        self.assertEqual(total_distance(AHEAD, (0, 2, 5), [(0, 9998), (0, 9999)]), 9999)

    def test_only_the_own_distance_counts(self):
        self.assertEqual(total_distance(RING, (0, 0, 0), [(0, 100)]), 100)
        self.assertEqual(total_distance(RING, (0, 0, 0), [(0, 100), (2, 90)]), 100)
        self.assertEqual(total_distance(RING, (0, 0, 0), [(0, 100), (2, 92), (0, 103)]), 105)

    def test_against_settling(self):
        for fleet, positions in calm_fleets(300):
            for barge in range(fleet[0]):
                for distance in (0, 1, 7, 30):
                    target = positions[barge] + distance
                    moved = list(positions)
                    moved[barge] = target
                    expected = settle(fleet, moved)
                    self.assertEqual(expected[barge], target)
                    self.assertEqual(haul(fleet, positions, barge, target), expected)
                    dragged = [other for other in range(fleet[0]) if expected[other] > moved[other]]
                    self.assertEqual(dragged_barges(fleet, positions, barge, target), dragged)

    def test_as_little_as_possible(self):
        fleet = (3, ((0, 1, 1), (1, 2, -1), (2, 0, 2)))
        for positions in itertools.product(range(4), repeat=3):
            if broken_ropes(fleet, positions):
                continue
            after = haul(fleet, positions, 0, positions[0] + 2)
            fitting = [other for other in itertools.product(range(10), repeat=3)
                       if other[0] == positions[0] + 2 and not broken_ropes(fleet, other)
                       and all(new >= old for new, old in zip(other, positions))]
            self.assertIn(after, fitting)
            self.assertEqual(after, tuple(min(column) for column in zip(*fitting)))


class WishesTest(ErrorCase):
    def expect_wishes(self, fleet, positions, wishes, index):
        self.expect(InvalidWishes, least_positions, fleet, positions, wishes, index=index)
        self.expect(InvalidWishes, greatest_positions, fleet, wishes, index=index)
        self.expect(InvalidWishes, reachable_ranges, fleet, positions, wishes, index=index)

    def test_examples(self):
        self.assertEqual(least_positions(RING, (0, 0, 0), (8, None, 6)), (8, 3, 6))
        self.assertEqual(greatest_positions(RING, (None, 4, None)), (9, 4, 14))
        self.assertEqual(reachable_ranges(RING, (0, 0, 0), (None, 4, None)), [(0, 9), (0, 4), (0, 14)])
        self.assertIsNone(reachable_ranges(RING, (0, 0, 0), (None, -1, None)))

    def test_no_tuple(self):
        for wishes in (None, True, 0, 1.5, "", "abc", [], [None, None, None], [0, None, "a"]):
            self.expect_wishes(RING, (0, 0, 0), wishes, 0)

    def test_invalid_entries(self):
        for entry in NO_NUMBERS + (10000, -10000):
            if entry is not None:
                for index in range(3):
                    wishes = [None, 0, None]
                    wishes[index] = entry
                    self.expect_wishes(RING, (0, 0, 0), tuple(wishes), index)

    def test_missing_and_superfluous_entries(self):
        self.expect_wishes(RING, (0, 0, 0), (), 0)
        self.expect_wishes(RING, (0, 0, 0), (None,), 1)
        self.expect_wishes(RING, (0, 0, 0), (None, 5), 2)
        self.expect_wishes(RING, (0, 0, 0), (None, 5, None, None), 3)
        self.expect_wishes(RING, (0, 0, 0), (None, 5, None, "a", None), 3)
        self.expect_wishes(RING, (0, 0, 0), (None, 10000, None, None), 1)
        self.expect_wishes(RING, (0, 0, 0), (None, "a"), 1)

    def test_order_of_the_errors(self):
        for call in (least_positions, reachable_ranges):
            self.expect(InvalidPositions, call, RING, (0, 0), None, index=2)
            self.expect(BrokenRope, call, RING, (6, 0, 0), None, index=0)
            self.expect(BrokenRope, call, CLASH, (0, 0), (None, None), index=1)
        self.expect(InvalidWishes, greatest_positions, CLASH, (None,), index=1)
        self.expect(InvalidWishes, greatest_positions, CLASH, (0, True), index=1)
        self.expect(Contradictory, greatest_positions, CLASH, (None, None))
        self.expect(Contradictory, greatest_positions, CLASH, (0, 0))
        self.expect(Contradictory, greatest_positions, (3, CLASH[1]), (None, None, 5))

    def test_bounds(self):
        self.assertEqual(least_positions((2, ()), (-9999, 0), (-9999, 9999)), (-9999, 9999))
        self.assertEqual(greatest_positions((2, ()), (-9999, 9999)), (-9999, 9999))
        self.assertEqual(reachable_ranges((2, ()), (-9999, 0), (-9999, 9999)), [(-9999, -9999), (0, 9999)])

    def test_least_without_wishes(self):
        self.assertEqual(least_positions(RING, (4, 1, 2), (None, None, None)), (4, 1, 2))
        self.assertEqual(least_positions(RING, (4, 1, 2), (0, -5, 2)), (4, 1, 2))

    def test_least_with_wishes(self):
        self.assertEqual(least_positions(RING, (0, 0, 0), (8, None, None)), (8, 3, 0))
        self.assertEqual(least_positions(RING, (0, 0, 0), (None, 8, 20)), (15, 10, 20))
        self.assertEqual(least_positions(RING, (0, 0, 0), (20, 8, None)), (20, 15, 10))
        self.assertEqual(least_positions(AHEAD, (0, 2, 5), (9999, None, None)), (9999, 10001, 10004))
        self.assertEqual(least_positions(AHEAD, (0, 2, 5), (9999, 9998, 9997)), (9999, 10001, 10004))
        self.assertEqual(least_positions(AHEAD, (0, 2, 5), (None, 7, 6)), (3, 7, 10))

    def test_least_against_settling(self):
        wishes = ((None, 3, 20, -2, 9), (17, None, -9999, 1, None), (0, 0, 0, 0, 0))
        for fleet, positions in calm_fleets(300):
            for row in wishes:
                row = row[:fleet[0]]
                start = [old if wish is None else max(old, wish) for old, wish in zip(positions, row)]
                self.assertEqual(least_positions(fleet, positions, row), settle(fleet, start))

    def test_greatest_without_limits(self):
        self.assertEqual(greatest_positions(RING, (None, None, None)), (None, None, None))
        self.assertEqual(greatest_positions((1, ()), (None,)), (None,))
        self.assertEqual(greatest_positions((1, ()), (0,)), (0,))

    def test_greatest_without_a_bound(self):
        fleet = (4, ((0, 1, 5), (1, 2, 5)))
        self.assertEqual(greatest_positions(fleet, (None, 4, None, None)), (9, 4, None, None))
        self.assertEqual(greatest_positions(fleet, (None, None, 0, None)), (10, 5, 0, None))
        self.assertEqual(greatest_positions(fleet, (0, None, None, 0)), (0, None, None, 0))

    def test_greatest_takes_the_narrowest_limit(self):
        self.assertEqual(greatest_positions(RING, (0, 100, 100)), (0, 10, 5))
        self.assertEqual(greatest_positions(RING, (7, 2, 50)), (7, 2, 12))
        self.assertEqual(greatest_positions(AHEAD, (None, None, 0)), (-5, -3, 0))

    def test_greatest_beyond_the_range(self):
        fleet = (2, ((0, 1, 99),))
        self.assertEqual(greatest_positions(fleet, (None, 9999)), (10098, 9999))
        self.assertEqual(greatest_positions((2, ((0, 1, -99),)), (None, -9999)), (-10098, -9999))

    def test_greatest_is_reached_and_not_surpassed(self):
        limits = ((None, 3, 5, None, 9), (2, None, None, 1, None))
        for fleet, positions in calm_fleets(300):
            for row in limits:
                row = row[:fleet[0]]
                greatest = greatest_positions(fleet, row)
                # A barge without a bound is so far ahead that its own ropes cannot hold it.
                filled = self.fill(fleet, greatest)
                for front, rear, length in fleet[1]:
                    self.assertLessEqual(filled[front] - filled[rear], length)
                for barge, value in enumerate(greatest):
                    if value is not None:
                        start = [-1000] * fleet[0]
                        start[barge] = value + 1
                        after = settle(fleet, start)
                        self.assertTrue(any(limit is not None and new > limit for new, limit in zip(after, row)))

    def fill(self, fleet, greatest):
        start = [1000 if value is None else -1000 for value in greatest]
        after = settle(fleet, start)
        return [new if value is None else value for new, value in zip(after, greatest)]

    def test_ranges_without_limits(self):
        self.assertEqual(reachable_ranges(RING, (0, 1, 2), (None, None, None)), [(0, None), (1, None), (2, None)])

    def test_ranges_with_some_bounds(self):
        fleet = (4, ((0, 1, 5), (1, 2, 5)))
        ranges = reachable_ranges(fleet, (0, 0, 0, -3), (None, 4, None, None))
        self.assertEqual(ranges, [(0, 9), (0, 4), (0, None), (-3, None)])
        self.assertEqual([type(entry) for entry in ranges], [tuple] * 4)
        self.assertEqual(reachable_ranges((2, ((0, 1, 99),)), (0, 0), (None, 9999)), [(0, 10098), (0, 9999)])

    def test_barge_at_or_beyond_its_limit(self):
        self.assertEqual(reachable_ranges(RING, (5, 0, 0), (None, 0, None)), [(5, 5), (0, 0), (0, 10)])
        self.assertIsNone(reachable_ranges(RING, (5, 1, 0), (None, 0, None)))
        self.assertIsNone(reachable_ranges(RING, (0, 0, 0), (None, None, -9999)))
        self.assertIsNone(reachable_ranges((1, ()), (1,), (0,)))

    def test_ranges_against_all_hauls(self):
        fleets = (RING, (3, ((0, 1, 1), (1, 2, -1), (2, 0, 2))), (3, ((0, 1, 2), (2, 1, 0))))
        for fleet in fleets:
            start = settle(fleet, (0, 0, 0))
            for limits in ((None, 4, None), (3, None, 2), (5, 4, 3), (1, 1, 1)):
                limits = tuple([7 if limit is None else limit for limit in limits])
                self.assertEqual(reachable_ranges(fleet, start, limits), self.explore(fleet, start, limits))

    def explore(self, fleet, start, limits):
        if any(old > limit for old, limit in zip(start, limits)):
            return None
        found = [start]
        for positions in found:
            for barge, limit in enumerate(limits):
                for target in range(positions[barge], limit + 1):
                    after = haul(fleet, positions, barge, target)
                    if after not in found and all(new <= most for new, most in zip(after, limits)):
                        found.append(after)
        return [(min(column), max(column)) for column in zip(*found)]


if __name__ == "__main__":
    unittest.main()
