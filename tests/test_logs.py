"""Point 12: logs, ropes that fit positions, and numbers of positions."""

import itertools
import unittest

from haulropes.errors import BrokenRope, Contradictory, InvalidFleet, InvalidLimit, InvalidPositions, InvalidRope
from haulropes.fleets import broken_ropes
from haulropes.logs import count_positions, first_error, shortest_ropes
from support import CLASH, NO_NUMBERS, RING, ErrorCase, calm_fleets, random_fleets, settle

# The right log of three hauls from (0, 0, 0) on.
LOG = [((0, 8), (8, 3, 0)), ((2, 6), (8, 3, 6)), ((1, 5), (8, 5, 6))]
START = (0, 0, 0)


class LogTest(ErrorCase):
    def expect_wrong(self, entry):
        """Check that an entry is wrong wherever it stands."""
        self.assertEqual(first_error(RING, START, [entry]), 0)
        self.assertEqual(first_error(RING, START, [entry] + LOG), 0)
        self.assertEqual(first_error(RING, START, LOG + [entry]), 3)
        self.assertEqual(first_error(RING, START, LOG[:2] + [entry, None]), 2)

    def test_example(self):
        self.assertEqual(first_error(RING, START, [((0, 8), (8, 3, 0)), ((2, 6), (8, 4, 6))]), 1)

    def test_right_logs(self):
        self.assertIsNone(first_error(RING, START, []))
        self.assertIsNone(first_error(RING, START, LOG))
        self.assertIsNone(first_error(RING, START, LOG + [((2, 6), (8, 5, 6)), ((0, 8), (8, 5, 6))]))
        self.assertIsNone(first_error((1, ()), (-9999,), [((0, -9999), (-9999,)), ((0, 9999), (9999,))]))

    def test_no_list(self):
        for log in (None, True, 0, 1.5, "", "abc", (), tuple(LOG), LOG[0]):
            self.assertEqual(first_error(RING, START, log), 0)

    def test_no_tuples_of_two_items(self):
        for entry in NO_NUMBERS + (0, ((0, 8),), ((0, 8), (8, 3, 0), 1), [(0, 8), (8, 3, 0)], "ab", (0, 8)):
            self.expect_wrong(entry)

    def test_no_hauls(self):
        for step in NO_NUMBERS + (0, (0,), (0, 8, 8), [0, 8], "08", (3, 8), (-1, 8), (True, 8), (None, 8), (0, None)):
            self.expect_wrong((step, (8, 5, 6)))
        self.assertEqual(first_error(RING, (1, 0, 0), [((0, True), (1, 0, 0))]), 0)
        self.assertEqual(first_error(RING, START, [((False, 8), (8, 3, 0))]), 0)

    def test_hauls_that_are_invalid_at_their_moment(self):
        self.assertEqual(first_error(RING, START, LOG + [((1, 4), (8, 5, 6))]), 3)
        self.assertEqual(first_error(RING, START, [((0, -1), (-1, 0, 0))]), 0)
        # The first haul drags barge 1 to 3.
        self.assertEqual(first_error(RING, START, LOG[:1] + [((1, 2), (8, 3, 0))]), 1)
        self.assertEqual(first_error(RING, START, LOG[:1] + [((1, 2), (8, 2, 0))]), 1)
        self.assertEqual(first_error((1, ()), (0,), [((0, 10000), (10000,))]), 0)

    def test_wrong_positions(self):
        wrong = NO_NUMBERS + (
            0, [8, 3, 0], (8, 3), (8, 3, 0, 0), (8, 3, 1), (8, 2, 0), (8, 4, 0), (7, 3, 0), (8, 3, None),
            (8, 3, False), (8, 3, "0"), (8, (3,), 0), (0, 0, 0), ((8, 3, 0),), "830")
        for positions in wrong:
            self.assertEqual(first_error(RING, START, [((0, 8), positions)]), 0)
            self.assertEqual(first_error(RING, START, [((0, 0), START), ((0, 8), positions), LOG[1]]), 1)

    def test_booleans_are_no_positions(self):
        self.assertIsNone(first_error(RING, START, [((0, 1), (1, 0, 0))]))
        for positions in ((True, 0, 0), (1, False, 0), (1, 0, False)):
            self.assertEqual(first_error(RING, START, [((0, 1), positions)]), 0)

    def test_first_wrong_entry_is_told(self):
        self.assertEqual(first_error(RING, START, [LOG[0], ((2, 6), (8, 4, 6)), None]), 1)
        self.assertEqual(first_error(RING, START, [None, None]), 0)

    def test_positions_beyond_the_range(self):
        fleet = (2, ((0, 1, -5),))
        self.assertIsNone(first_error(fleet, (0, 5), [((0, 9999), (9999, 10004))]))
        self.assertIsNone(first_error(fleet, (0, 5), [((0, 9999), (9999, 10004)), ((0, 9999), (9999, 10004))]))
        self.assertEqual(first_error(fleet, (0, 5), [((0, 9999), (9999, 10004)), ((1, 10004), (9999, 10004))]), 1)
        self.assertEqual(first_error(fleet, (0, 5), [((0, 9999), (9999, 9999))]), 0)

    def test_against_settling(self):
        for fleet, positions in calm_fleets(200):
            log = []
            current = positions
            for step in range(5):
                barge = step % fleet[0]
                target = current[barge] + 3 * step
                moved = list(current)
                moved[barge] = target
                current = settle(fleet, moved)
                log.append(((barge, target), current))
            self.assertIsNone(first_error(fleet, positions, log))
            for index, (step, after) in enumerate(log):
                wrong = (step, after[:-1] + (after[-1] + 1,))
                self.assertEqual(first_error(fleet, positions, log[:index] + [wrong] + log[index + 1:]), index)

    def test_errors(self):
        self.expect(InvalidFleet, first_error, (2, None), None, None, part="ropes", index=0)
        self.expect(InvalidPositions, first_error, RING, (0, 0), None, index=2)
        self.expect(InvalidPositions, first_error, RING, [0, 0, 0], LOG, index=0)
        self.expect(BrokenRope, first_error, RING, (6, 0, 0), None, index=0)
        self.expect(BrokenRope, first_error, CLASH, (0, 0), [], index=1)


class ShortestTest(ErrorCase):
    def test_example(self):
        self.assertEqual(shortest_ropes(2, [(0, 1), (1, 0)], [(0, 4), (9, 5)]), [(0, 1, 4), (1, 0, 4)])

    def test_one_arrangement(self):
        self.assertEqual(shortest_ropes(3, [(2, 0), (0, 2), (0, 1)], [(5, 1, -3)]), [(2, 0, -8), (0, 2, 8), (0, 1, 4)])

    def test_no_pairs_and_equal_pairs(self):
        self.assertEqual(shortest_ropes(2, [], [(0, 0)]), [])
        self.assertEqual(shortest_ropes(1, [], [(0,)]), [])
        self.assertEqual(shortest_ropes(2, [(1, 0)] * 50, [(0, 0), (0, 7)]), [(1, 0, 7)] * 50)

    def test_lengths_beyond_the_range(self):
        ropes = shortest_ropes(2, [(0, 1), (1, 0)], [(-9999, 9999), (-9999, 9998)])
        self.assertEqual(ropes, [(0, 1, -19997), (1, 0, 19998)])

    def test_all_positions_count(self):
        arrangements = [(0, 0, 0), (1, 5, 2), (-3, -9, 4), (7, 7, 7)]
        ropes = shortest_ropes(3, list(itertools.permutations(range(3), 2)), arrangements)
        self.assertEqual(ropes, [(0, 1, 6), (0, 2, 0), (1, 0, 4), (1, 2, 3), (2, 0, 7), (2, 1, 13)])
        for order in itertools.permutations(arrangements):
            self.assertEqual(shortest_ropes(3, [(1, 0)], list(order)), [(1, 0, 4)])
        fleet = (3, tuple(ropes))
        for positions in arrangements:
            self.assertEqual(broken_ropes(fleet, positions), [])
        for index, (front, rear, length) in enumerate(ropes):
            shorter = (3, tuple(ropes[:index] + [(front, rear, length - 1)] + ropes[index + 1:]))
            self.assertTrue(any(broken_ropes(shorter, positions) for positions in arrangements))

    def test_counts(self):
        for count in NO_NUMBERS + (0, 9, -1, 100):
            self.expect(InvalidFleet, shortest_ropes, count, None, None, part="count", index=0)
            self.expect(InvalidFleet, shortest_ropes, count, [(0, 0)], [], part="count", index=0)
        self.assertEqual(shortest_ropes(8, [(7, 0)], [tuple(range(8))]), [(7, 0, 7)])

    def test_no_list_of_positions(self):
        for arrangements in (None, True, 0, 1.5, "", "abc", (), ((0, 0),), []):
            self.expect(InvalidPositions, shortest_ropes, 2, [(0, 1)], arrangements, index=0)
            # Pairs are checked behind the positions.
            self.expect(InvalidPositions, shortest_ropes, 2, [(0, 0)], arrangements, index=0)
            self.expect(InvalidPositions, shortest_ropes, 2, None, arrangements, index=0)

    def test_invalid_positions(self):
        for positions in (None, True, 0, "", [], [0, 0], ()):
            self.expect(InvalidPositions, shortest_ropes, 2, [(0, 1)], [(0, 0), positions], index=0)
            self.expect(InvalidPositions, shortest_ropes, 2, [(0, 1)], [positions, (0, None)], index=0)
        for item in NO_NUMBERS + (10000, -10000):
            self.expect(InvalidPositions, shortest_ropes, 2, [None], [(0, 0), (0, item)], index=1)
        self.expect(InvalidPositions, shortest_ropes, 2, [(0, 1)], [(0, 0), (0,), (None, 0)], index=1)
        self.expect(InvalidPositions, shortest_ropes, 2, [(0, 1)], [(0, 0), (0, 0, 0)], index=2)

    def test_invalid_pairs(self):
        wrong = NO_NUMBERS + (
            0, "01", [0, 1], (0,), (0, 1, 5), (0, 0), (1, 1), (0, 2), (2, 0), (-1, 0), (0, True), (False, 1),
            (0, None), (None, 1), ("0", 1), ((0,), 1), ([0], 1))
        for pair in wrong:
            self.expect(InvalidRope, shortest_ropes, 2, [pair], [(0, 0)])
            self.expect(InvalidRope, shortest_ropes, 2, [(0, 1), pair, (1, 0)], [(0, 0)])
        self.expect(InvalidRope, shortest_ropes, 1, [(0, 1)], [(0,)])

    def test_no_list_of_pairs(self):
        for pairs in (None, True, 0, "", "ab", (), ((0, 1),), (0, 1)):
            self.expect(InvalidRope, shortest_ropes, 2, pairs, [(0, 0)])


class CountTest(ErrorCase):
    def test_example(self):
        self.assertEqual(count_positions((2, ((0, 1, 0),)), 2), 6)

    def test_no_ropes(self):
        for count in range(1, 6):
            for limit in (0, 1, 12):
                self.assertEqual(count_positions((count, ()), limit), (limit + 1) ** count)

    def test_no_positions(self):
        self.assertEqual(count_positions((2, ((0, 1, -13),)), 12), 0)
        self.assertEqual(count_positions((2, ((0, 1, -12),)), 12), 1)
        self.assertEqual(count_positions((2, ((1, 0, -99),)), 12), 0)
        self.assertEqual(count_positions((3, ((1, 0, -7), (2, 1, -6))), 12), 0)
        self.assertEqual(count_positions((2, ((0, 1, -1),)), 0), 0)

    def test_rods(self):
        self.assertEqual(count_positions((2, ((0, 1, 3), (1, 0, -3))), 12), 10)
        self.assertEqual(count_positions((5, tuple([(barge, (barge + 1) % 5, 0) for barge in range(5)])), 12), 13)

    def test_against_all_positions(self):
        fleets = random_fleets(150, most_barges=4, low=-3, high=4) + random_fleets(10, low=0, high=3, seed=9)
        for fleet in fleets:
            for limit in (0, 1, 3, 5):
                everything = itertools.product(range(limit + 1), repeat=fleet[0])
                valid = [positions for positions in everything if not broken_ropes(fleet, positions)]
                try:
                    counted = count_positions(fleet, limit)
                except Contradictory:
                    counted = 0
                self.assertEqual(counted, len(valid))

    def test_limits(self):
        for limit in NO_NUMBERS + (-1, 13, 100):
            self.expect(InvalidLimit, count_positions, (2, ()), limit)
            self.expect(InvalidLimit, count_positions, (5, ()), limit)
            self.expect(InvalidLimit, count_positions, (6, ()), limit)
            self.expect(InvalidFleet, count_positions, (0, ()), limit, part="count", index=0)
        self.assertEqual(count_positions((5, ((0, 1, 5),)), 0), 1)
        self.assertEqual(count_positions((1, ()), 12), 13)

    def test_too_many_barges(self):
        for count in (6, 7, 8):
            for limit in (0, 5, 12):
                self.expect(InvalidLimit, count_positions, (count, ()), limit)
        for limit in (0, 12):
            self.expect(InvalidFleet, count_positions, (0, ()), limit, part="count", index=0)

    def test_contradictory_before_the_limit(self):
        for limit in (0, 12, 13, -1, True, None):
            self.expect(Contradictory, count_positions, CLASH, limit)
            self.expect(Contradictory, count_positions, (6, CLASH[1]), limit)
        self.expect(InvalidFleet, count_positions, (2, CLASH[1] + (None,)), -1, part="ropes", index=2)


if __name__ == "__main__":
    unittest.main()
