"""Point 11: implied and redundant ropes, and the comparison of fleets."""

import itertools
import unittest

from haulropes.errors import Contradictory, InvalidFleet, InvalidRope
from haulropes.fleets import broken_ropes, chain_length
from haulropes.ropes import counterexample, implied, missing_rope, reduce_ropes, redundant_ropes
from support import CLASH, NO_NUMBERS, RING, ErrorCase, is_contradictory, random_fleets, simple_chains

# A contradictory fleet of three barges, in which nothing is wrong between barges 0 and 2.
CLASH_OF_THREE = (3, CLASH[1])


def calm(fleets):
    """Return those of the fleets that are not contradictory."""
    return [fleet for fleet in fleets if not is_contradictory(fleet)]


def is_implied_by_chains(fleet, rope):
    """Return whether a chain without a barge twice is at most as long as a rope."""
    return any(length <= rope[2] for length in simple_chains(fleet, rope[0], rope[1]))


def without(fleet, index):
    """Return a fleet without one of its ropes."""
    return fleet[0], tuple([rope for other, rope in enumerate(fleet[1]) if other != index])


class ImpliedTest(ErrorCase):
    def expect_rope(self, fleet, rope):
        self.expect(InvalidRope, implied, fleet, rope)
        self.expect(InvalidRope, counterexample, fleet, rope)

    def check_counterexample(self, fleet, rope):
        """Check that positions are valid and break the rope, which is not implied."""
        self.assertIs(implied(fleet, rope), False)
        positions = counterexample(fleet, rope)
        self.assertIs(type(positions), tuple)
        self.assertEqual(broken_ropes(fleet, positions), [])
        self.assertGreater(positions[rope[0]] - positions[rope[1]], rope[2])

    def test_examples(self):
        self.assertIs(implied(RING, (0, 2, 10)), True)
        self.assertIsNone(counterexample(RING, (0, 2, 10)))

    def test_just_implied_and_just_not(self):
        for front, rear, length in ((0, 2, 10), (0, 1, 5), (1, 0, 10), (2, 1, 10), (1, 2, 5)):
            self.assertIs(implied(RING, (front, rear, length)), True)
            self.assertIsNone(counterexample(RING, (front, rear, length)))
            self.assertIs(implied(RING, (front, rear, length + 1)), True)
            self.check_counterexample(RING, (front, rear, length - 1))
            self.check_counterexample(RING, (front, rear, -99))

    def test_no_chain(self):
        fleet = (3, ((0, 1, 5),))
        for rope in ((1, 0, 99), (0, 2, 99), (2, 0, 99), (2, 1, -99), (1, 2, 0)):
            self.check_counterexample(fleet, rope)
        self.check_counterexample((2, ()), (1, 0, 99))

    def test_negative_lengths_and_length_zero(self):
        fleet = (3, ((0, 1, -4), (1, 2, 4)))
        self.assertIs(implied(fleet, (0, 2, 0)), True)
        self.check_counterexample(fleet, (0, 2, -1))
        self.assertIs(implied(fleet, (0, 1, -4)), True)
        self.check_counterexample(fleet, (0, 1, -5))
        self.check_counterexample(fleet, (1, 0, 99))
        self.check_counterexample(fleet, (1, 0, 3))

    def test_longest_chains(self):
        fleet = (8, tuple([(barge, barge + 1, 99) for barge in range(7)]))
        self.check_counterexample(fleet, (0, 7, 99))
        self.check_counterexample(fleet, (7, 0, 99))
        fleet = (8, tuple([(barge, barge + 1, -99) for barge in range(7)]))
        self.assertIs(implied(fleet, (0, 7, -99)), True)
        self.check_counterexample(fleet, (7, 0, 99))
        self.check_counterexample(fleet, (7, 0, -99))

    def test_several_equal_ropes(self):
        fleet = (2, ((0, 1, 5), (0, 1, 5), (0, 1, 7)))
        self.assertIs(implied(fleet, (0, 1, 5)), True)
        self.check_counterexample(fleet, (0, 1, 4))

    def test_against_all_chains(self):
        for fleet in calm(random_fleets(250)):
            for front, rear in itertools.permutations(range(fleet[0]), 2):
                least = chain_length(fleet, front, rear)
                for length in (-99, -3, 0, 12, 99) if least is None else (least - 1, least, least + 1):
                    rope = (front, rear, length)
                    if is_implied_by_chains(fleet, rope):
                        self.assertIs(implied(fleet, rope), True)
                        self.assertIsNone(counterexample(fleet, rope))
                    else:
                        self.check_counterexample(fleet, rope)

    def test_invalid_ropes(self):
        wrong = NO_NUMBERS + (
            0, "abc", [0, 1, 5], (0, 1), (0, 1, 5, 5), (0, 0, 5), (2, 2, 0), (0, 3, 5), (3, 0, 5), (-1, 0, 5),
            (0, 1, -100), (0, 1, 100), (0, 1, None), (0, 1, "5"), (None, 1, 5), ([0], 1, 5), (0, True, 5),
            (False, 1, 5), (0, 1, True), ((0, 1, 5),))
        for rope in wrong:
            self.expect_rope(RING, rope)
            self.expect_rope(CLASH_OF_THREE, rope)
        self.expect_rope((1, ()), (0, 0, 0))
        self.expect_rope((2, ()), (0, 2, 0))

    def test_order_of_the_errors(self):
        for call in (implied, counterexample):
            self.expect(InvalidFleet, call, (3, ((0, 0, 1),)), None, part="ropes", index=0)
            self.expect(Contradictory, call, CLASH, (0, 1, 5))
            self.expect(Contradictory, call, CLASH_OF_THREE, (0, 2, 5))
            self.expect(Contradictory, call, CLASH_OF_THREE, (0, 1, 3))


class RedundantTest(ErrorCase):
    def test_examples(self):
        self.assertEqual(redundant_ropes((3, ((0, 1, 5), (1, 2, 5), (0, 2, 10)))), [2])
        self.assertEqual(reduce_ropes((2, ((0, 1, 5), (0, 1, 5)))), (2, ((0, 1, 5),)))

    def test_nothing_redundant(self):
        for fleet in (RING, (1, ()), (8, ()), (3, ((0, 1, 5), (1, 2, 5), (0, 2, 9)))):
            self.assertEqual(redundant_ropes(fleet), [])
            self.assertEqual(reduce_ropes(fleet), fleet)

    def test_equal_ropes(self):
        self.assertEqual(redundant_ropes((2, ((0, 1, 5), (0, 1, 5)))), [0, 1])
        self.assertEqual(redundant_ropes((2, ((0, 1, 5), (0, 1, 6), (1, 0, 5)))), [1])
        self.assertEqual(redundant_ropes((2, ((0, 1, 6), (0, 1, 5), (0, 1, 6), (0, 1, 5)))), [0, 1, 2, 3])
        self.assertEqual(reduce_ropes((2, ((0, 1, 6), (0, 1, 5), (0, 1, 6), (0, 1, 5)))), (2, ((0, 1, 5),)))
        self.assertEqual(reduce_ropes((2, ((0, 1, 5),) * 40)), (2, ((0, 1, 5),)))

    def test_from_the_last_rope_to_the_first(self):
        # A rod of barges 0 and 1: the third and the fourth rope imply one another.
        fleet = (3, ((0, 1, 2), (1, 0, -2), (0, 2, 5), (1, 2, 3)))
        self.assertEqual(redundant_ropes(fleet), [2, 3])
        self.assertEqual(reduce_ropes(fleet), (3, ((0, 1, 2), (1, 0, -2), (0, 2, 5))))
        fleet = (3, ((1, 2, 3), (0, 1, 2), (0, 2, 5), (1, 0, -2)))
        self.assertEqual(redundant_ropes(fleet), [0, 2])
        self.assertEqual(reduce_ropes(fleet), (3, ((1, 2, 3), (0, 1, 2), (1, 0, -2))))

    def test_remaining_ropes_keep_their_order(self):
        fleet = (4, ((0, 3, 9), (2, 3, 1), (0, 1, 1), (1, 2, 1), (0, 2, 2), (3, 0, 4)))
        self.assertEqual(redundant_ropes(fleet), [0, 4])
        self.assertEqual(reduce_ropes(fleet), (4, ((2, 3, 1), (0, 1, 1), (1, 2, 1), (3, 0, 4))))

    def test_against_the_definition(self):
        reduced = 0
        for fleet in calm(random_fleets(300, low=-2, high=6)):
            indexes = range(len(fleet[1]))
            expected = [index for index in indexes if is_implied_by_chains(without(fleet, index), fleet[1][index])]
            self.assertEqual(redundant_ropes(fleet), expected)
            left = fleet
            for index in reversed(indexes):
                if is_implied_by_chains(without(left, index), left[1][index]):
                    left = without(left, index)
            self.assertEqual(reduce_ropes(fleet), left)
            self.assertEqual(redundant_ropes(left), [])
            self.assertIsNone(missing_rope(left, fleet))
            reduced += left != fleet
        self.assertGreater(reduced, 50)

    def test_errors(self):
        for call in (redundant_ropes, reduce_ropes):
            self.expect(InvalidFleet, call, [2, ()], part="fleet", index=0)
            self.expect(InvalidFleet, call, (2, CLASH[1] + (None,)), part="ropes", index=2)
            self.expect(Contradictory, call, CLASH)
            self.expect(Contradictory, call, CLASH_OF_THREE)


class MissingTest(ErrorCase):
    def test_example(self):
        self.assertEqual(missing_rope(RING, (3, ((0, 2, 10), (0, 2, 9)))), 1)

    def test_nothing_missing(self):
        self.assertIsNone(missing_rope(RING, RING))
        self.assertIsNone(missing_rope(RING, (3, ())))
        self.assertIsNone(missing_rope((1, ()), (1, ())))
        self.assertIsNone(missing_rope(RING, (3, ((2, 1, 10), (1, 0, 10), (0, 2, 99)))))

    def test_first_missing_rope(self):
        self.assertEqual(missing_rope((3, ()), RING), 0)
        self.assertEqual(missing_rope(RING, (3, ((0, 1, 5), (0, 1, 4), (0, 1, 3)))), 1)
        self.assertEqual(missing_rope((2, ((0, 1, 5),)), (2, ((0, 1, 6), (0, 1, 5), (1, 0, 99)))), 2)
        self.assertEqual(missing_rope((2, ((0, 1, 6),)), (2, ((0, 1, 5),) * 40)), 0)

    def test_second_fleet_may_be_contradictory(self):
        self.assertEqual(missing_rope((2, ((0, 1, 3),)), CLASH), 1)
        self.assertEqual(missing_rope((2, ()), CLASH), 0)

    def test_different_numbers_of_barges(self):
        for other in ((2, ()), (4, ()), (1, ()), (2, CLASH[1])):
            self.expect(InvalidFleet, missing_rope, RING, other, part="count", index=1)
        # Before the first fleet is told to be contradictory.
        self.expect(InvalidFleet, missing_rope, CLASH, RING, part="count", index=1)

    def test_invalid_fleets(self):
        wrong = (
            (None, "fleet", 0), ([3, ()], "fleet", 0), ((3,), "fleet", 0), ((True, ()), "count", 0),
            ((0, None), "count", 0), ((9, ()), "count", 0), ((3, [(0, 1, 5)]), "ropes", 0),
            ((3, RING[1] + ((0, 3, 1),)), "ropes", 3), ((2, ((0, 1, 5),) * 41), "ropes", 40))
        for fleet, part, index in wrong:
            self.expect(InvalidFleet, missing_rope, fleet, None, part=part, index=index)
            self.expect(InvalidFleet, missing_rope, fleet, (9, ()), part=part, index=index)
            for first in (RING, CLASH):
                self.expect(InvalidFleet, missing_rope, first, fleet, part=part, index=index)

    def test_contradictory(self):
        self.expect(Contradictory, missing_rope, CLASH, (2, ()))
        self.expect(Contradictory, missing_rope, CLASH, CLASH)
        self.expect(Contradictory, missing_rope, CLASH_OF_THREE, RING)

    def test_against_implied(self):
        fleets = calm(random_fleets(120, low=-2, high=6))
        for first, second in itertools.product(fleets[:60], fleets[60:]):
            if first[0] == second[0]:
                missing = [index for index, rope in enumerate(second[1]) if not is_implied_by_chains(first, rope)]
                self.assertEqual(missing_rope(first, second), missing[0] if missing else None)


if __name__ == "__main__":
    unittest.main()
