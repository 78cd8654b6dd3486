"""Points 7 and 8: goals, knots, the fewest hauls and crews."""

import unittest

from haulropes.errors import BrokenRope, CrewTooSmall, InvalidCrew, InvalidFleet, InvalidGoal, InvalidPositions
from haulropes.fleets import taut_ropes
from haulropes.hauling import haul_all
from haulropes.knots import (
    count_choices, fewest_hauls, find_knots, find_source_knots, moving_barges, needs_haul, plan_fewest)
from support import CLASH, NO_NUMBERS, RING, ErrorCase, all_crews, random_ways, search_hauls

# Two barges tied by a rod: barge 0 is always ahead of barge 1 by 3.
ROD = (2, ((0, 1, 3), (1, 0, -3)))
# A rod of barges 1 and 3, which leads barge 0, and a rod of barges 2 and 4.
RODS = (5, ((3, 0, 2), (1, 3, 4), (4, 2, 1), (3, 1, -4), (2, 4, -1)))
WAY = (0, 0, 0), (10, 5, 5)

GOAL_CALLS = (moving_barges, find_knots, find_source_knots, fewest_hauls, count_choices, plan_fewest)


def lists_of(count):
    """Return all ascending lists of so many barges."""
    return [list(crew) for crew in all_crews(count)[1:]]


class GoalTest(ErrorCase):
    def calls(self):
        return GOAL_CALLS + (lambda fleet, positions, goal: needs_haul(fleet, positions, goal, None),)

    def test_goal_less_than_a_position(self):
        for call in self.calls():
            self.expect(InvalidGoal, call, RING, (0, 0, 0), (4, -1, 0), barge=1)
            self.expect(InvalidGoal, call, RING, (0, 0, 0), (-1, -1, 0), barge=0)
            self.expect(InvalidGoal, call, RING, (0, 0, 5), (10, 5, 4), barge=2)
            self.expect(InvalidGoal, call, (1, ()), (9999,), (-9999,), barge=0)

    def test_errors_of_positions_for_the_goal(self):
        for call in self.calls():
            for goal in (None, True, 0, "abc", [], [10, 5, 5]):
                self.expect(InvalidPositions, call, RING, (0, 0, 0), goal, index=0)
            for item in NO_NUMBERS + (10000, -10000):
                self.expect(InvalidPositions, call, RING, (0, 0, 0), (10, item, 5), index=1)
            self.expect(InvalidPositions, call, RING, (0, 0, 0), (10, 5), index=2)
            self.expect(InvalidPositions, call, RING, (0, 0, 0), (10, 5, 5, 5), index=3)
            self.expect(BrokenRope, call, RING, (0, 0, 0), (10, 4, 0), index=0)
            self.expect(BrokenRope, call, RING, (0, 0, 0), (0, 0, 6), index=2)

    def test_order_of_the_errors(self):
        for call in self.calls():
            self.expect(InvalidFleet, call, (0, ()), None, None, part="count", index=0)
            self.expect(InvalidPositions, call, RING, (0, 0), (None,), index=2)
            self.expect(BrokenRope, call, RING, (6, 0, 0), None, index=0)
            self.expect(BrokenRope, call, RING, (6, 0, 0), (0, 6, 0), index=0)
            # The goal is less than the position, too.
            self.expect(InvalidPositions, call, RING, (0, 0, 0), (-1, 0, 10000), index=2)
            self.expect(BrokenRope, call, RING, (0, 0, 0), (-1, 6, 0), index=1)
            self.expect(BrokenRope, call, CLASH, (0, 0), (0, 0), index=1)

    def test_farthest_goal(self):
        self.assertEqual(plan_fewest((1, ()), (-9999,), (9999,)), [(0, 9999)])
        self.assertEqual(fewest_hauls((2, ()), (9999, -9999), (9999, -9999)), 0)


class KnotsTest(ErrorCase):
    def test_examples(self):
        self.assertEqual(moving_barges(RING, (0, 0, 5), (10, 5, 5)), [0, 1])
        self.assertEqual(find_knots(RING, *WAY), [[0], [1], [2]])
        self.assertEqual(find_source_knots(RING, *WAY), [[0], [2]])

    def test_nothing_moves(self):
        for fleet, positions in ((RING, (10, 5, 5)), (ROD, (3, 0)), ((1, ()), (0,))):
            self.assertEqual(moving_barges(fleet, positions, positions), [])
            self.assertEqual(find_knots(fleet, positions, positions), [])
            self.assertEqual(find_source_knots(fleet, positions, positions), [])

    def test_moving_barges(self):
        fleet = (8, ())
        self.assertEqual(moving_barges(fleet, (0,) * 8, (0, 1, 0, 9999, 0, 1, 0, 1)), [1, 3, 5, 7])
        self.assertEqual(moving_barges((1, ()), (-1,), (0,)), [0])

    def test_rods(self):
        self.assertEqual(find_knots(ROD, (3, 0), (4, 1)), [[0, 1]])
        self.assertEqual(find_source_knots(ROD, (3, 0), (4, 1)), [[0, 1]])
        here, there = (0, 4, 0, 0, 1), (5, 11, 8, 7, 9)
        self.assertEqual(find_knots(RODS, here, there), [[0], [1, 3], [2, 4]])
        self.assertEqual(find_source_knots(RODS, here, there), [[1, 3], [2, 4]])
        # Barge 0 goes ahead of where barge 3 drags it.
        self.assertEqual(find_source_knots(RODS, here, (6, 11, 0, 7, 1)), [[0], [1, 3]])

    def test_rope_must_be_taut_in_the_goal(self):
        fleet = (2, ((0, 1, 5),))
        self.assertEqual(find_source_knots(fleet, (0, 0), (9, 4)), [[0]])
        self.assertEqual(find_source_knots(fleet, (0, 0), (9, 5)), [[0], [1]])
        # It need not be taut before, and it does not lead if it is taut before only.
        self.assertEqual(find_source_knots(fleet, (5, 0), (9, 5)), [[0], [1]])
        self.assertEqual(find_source_knots(fleet, (5, 0), (9, 4)), [[0]])

    def test_both_barges_of_a_leading_rope_move(self):
        fleet = (3, ((0, 1, 5), (1, 2, 5)))
        # The ropes are taut in the goal, but barge 2 does not move, or barge 1 neither.
        self.assertEqual(find_knots(fleet, (9, 4, 0), (10, 5, 0)), [[0], [1]])
        self.assertEqual(find_source_knots(fleet, (9, 4, 0), (10, 5, 0)), [[0]])
        self.assertEqual(find_source_knots(fleet, (5, 0, 0), (5, 5, 0)), [[1]])
        self.assertEqual(find_source_knots(fleet, (9, 5, 0), (10, 5, 0)), [[0]])
        self.assertEqual(find_source_knots(fleet, (10, 5, 0), (10, 6, 1)), [[1]])
        self.assertEqual(find_source_knots(fleet, (10, 5, 1), (10, 6, 1)), [[1]])
        self.assertEqual(find_knots((2, ((1, 0, -2),)), (0, -5), (0, -2)), [[1]])

    def test_knot_by_a_circle_of_leading_ropes(self):
        fleet = (4, ((2, 0, 1), (0, 3, 2), (3, 2, -3), (1, 0, 4)))
        here, there = (0, 0, 1, -2), (5, 7, 6, 3)
        self.assertEqual(find_knots(fleet, here, there), [[0, 2, 3], [1]])
        self.assertEqual(find_source_knots(fleet, here, there), [[0, 2, 3], [1]])
        self.assertEqual(find_source_knots(fleet, here, (5, 9, 6, 3)), [[1]])
        self.assertEqual(find_knots(fleet, here, (5, 9, 6, 3)), [[0, 2, 3], [1]])

    def test_knots_in_the_order_of_their_first_barges(self):
        fleet = (6, ((5, 0, 1), (0, 5, -1), (4, 1, 0), (1, 4, 0), (3, 2, -7), (2, 3, 7)))
        here, there = (0, 0, 7, 0, 0, 1), (1, 1, 8, 1, 1, 2)
        self.assertEqual(find_knots(fleet, here, there), [[0, 5], [1, 4], [2, 3]])
        self.assertEqual(find_source_knots(fleet, here, there), [[0, 5], [1, 4], [2, 3]])
        self.assertEqual(find_knots(fleet, here, (0, 1, 8, 1, 1, 1)), [[1, 4], [2, 3]])

    def test_longest_circle_of_leading_ropes(self):
        ropes = tuple([(barge, (barge + 3) % 8, 0) for barge in range(8)])
        here, there = (0,) * 8, (1,) * 8
        self.assertEqual(find_knots((8, ropes), here, there), [[0, 1, 2, 3, 4, 5, 6, 7]])
        self.assertEqual(find_knots((8, ropes[1:]), here, there), [[barge] for barge in range(8)])
        self.assertEqual(find_source_knots((8, ropes[1:]), here, there), [[3]])

    def test_negative_and_short_ropes(self):
        fleet = (3, ((0, 1, -2), (1, 2, 0)))
        self.assertEqual(find_source_knots(fleet, (0, 2, 2), (1, 3, 3)), [[0]])
        self.assertEqual(find_source_knots(fleet, (0, 2, 2), (1, 4, 4)), [[0], [1]])
        self.assertEqual(find_source_knots(fleet, (0, 2, 2), (1, 4, 9)), [[0], [1], [2]])

    def test_against_the_definition(self):
        for fleet, positions, goal in random_ways(400, farthest=99):
            moving = [barge for barge in range(fleet[0]) if goal[barge] > positions[barge]]
            self.assertEqual(moving_barges(fleet, positions, goal), moving)
            led = self.led_barges(fleet, goal, moving)
            knots = []
            for barge in moving:
                knot = [other for other in moving if other in led[barge] and barge in led[other]]
                if knot not in knots:
                    knots.append(knot)
            self.assertEqual(find_knots(fleet, positions, goal), knots)
            sources = [knot for knot in knots
                       if not any(set(knot) & led[other] for other in moving if other not in knot)]
            self.assertEqual(find_source_knots(fleet, positions, goal), sources)

    def led_barges(self, fleet, goal, moving):
        """Return for each barge that moves the set of those to which leading ropes form a chain."""
        led = {barge: {barge} for barge in moving}
        taut = [fleet[1][index][:2] for index in taut_ropes(fleet, goal)]
        for _ in moving:
            for front, rear in taut:
                if front in moving and rear in moving:
                    for barge in moving:
                        if front in led[barge]:
                            led[barge].add(rear)
        return led


class FewestTest(ErrorCase):
    def test_examples(self):
        self.assertEqual(fewest_hauls(RING, *WAY), 2)
        self.expect(InvalidGoal, fewest_hauls, RING, (0, 0, 0), (4, -1, 0), barge=1)
        self.assertEqual(count_choices(ROD, (3, 0), (9, 6)), 2)
        self.assertEqual(plan_fewest(RING, *WAY), [(0, 10), (2, 5)])
        self.expect_crew((0, 1), CrewTooSmall, plan_fewest, RING, *WAY, knot=(2,))

    def test_nothing_moves(self):
        self.assertEqual(fewest_hauls(RING, (10, 5, 5), (10, 5, 5)), 0)
        self.assertEqual(count_choices(RING, (10, 5, 5), (10, 5, 5)), 1)
        for crew in (None, (), (1,)):
            self.assertEqual(plan_fewest(RING, (10, 5, 5), (10, 5, 5), crew=crew), [])

    def test_count_choices_multiplies(self):
        here, there = (0, 4, 0, 0, 1), (5, 11, 8, 7, 9)
        self.assertEqual(count_choices(RODS, here, there), 4)
        self.assertEqual(fewest_hauls(RODS, here, there), 2)
        ropes = tuple([(barge, (barge + 1) % 3, 0) for barge in range(3)])
        ropes += tuple([(barge + 3, (barge + 1) % 3 + 3, 0) for barge in range(3)])
        self.assertEqual(count_choices((8, ropes), (0,) * 8, (4,) * 6 + (0, 4)), 9)
        self.assertEqual(count_choices((8, ()), (0,) * 8, (4,) * 8), 1)

    def test_fewest_hauls_against_a_search(self):
        for fleet, positions, goal in random_ways(300):
            least = search_hauls(fleet, positions, goal, None, False)
            self.assertEqual(fewest_hauls(fleet, positions, goal), least)

    def test_plans_carried_out(self):
        small = 0
        for fleet, positions, goal in random_ways(400, farthest=99):
            sources = find_source_knots(fleet, positions, goal)
            self.assertEqual(fewest_hauls(fleet, positions, goal), len(sources))
            for crew in all_crews(fleet[0]):
                able = range(fleet[0]) if crew is None else crew
                short = [knot for knot in sources if not set(knot) & set(able)]
                if short:
                    small += 1
                    knot = tuple(short[0])
                    self.expect_crew(crew, CrewTooSmall, plan_fewest, fleet, positions, goal, knot=knot)
                else:
                    plan = plan_fewest(fleet, positions, goal, crew=crew)
                    firsts = [min(set(knot) & set(able)) for knot in sources]
                    self.assertEqual(plan, [(barge, goal[barge]) for barge in firsts])
                    self.assertEqual(haul_all(fleet, positions, plan), goal)
        self.assertGreater(small, 100)

    def test_first_barge_that_the_crew_can_haul(self):
        here, there = (0, 4, 0, 0, 1), (5, 11, 8, 7, 9)
        self.assertEqual(plan_fewest(RODS, here, there), [(1, 11), (2, 8)])
        self.assertEqual(plan_fewest(RODS, here, there, crew=None), [(1, 11), (2, 8)])
        self.assertEqual(plan_fewest(RODS, here, there, crew=(0, 1, 2, 3, 4)), [(1, 11), (2, 8)])
        self.assertEqual(plan_fewest(RODS, here, there, crew=(3, 4)), [(3, 7), (4, 9)])
        self.assertEqual(plan_fewest(RODS, here, there, crew=(0, 2, 3)), [(3, 7), (2, 8)])

    def test_first_source_knot_without_crew(self):
        here, there = (0, 4, 0, 0, 1), (5, 11, 8, 7, 9)
        for crew in ((), (0,), (2,), (0, 2, 4)):
            self.expect_crew(crew, CrewTooSmall, plan_fewest, RODS, here, there, knot=(1, 3))
        for crew in ((1,), (3,), (0, 1, 3)):
            self.expect_crew(crew, CrewTooSmall, plan_fewest, RODS, here, there, knot=(2, 4))
        # A barge that must not be hauled may be dragged.
        self.assertEqual(plan_fewest((2, ((0, 1, 0),)), (0, 0), (5, 5), crew=(0,)), [(0, 5)])
        self.expect_crew((1,), CrewTooSmall, plan_fewest, (2, ((0, 1, 0),)), (0, 0), (5, 5), knot=(0,))


class CrewTest(ErrorCase):
    def expect_invalid(self, crew, index):
        self.expect_crew(crew, InvalidCrew, plan_fewest, RING, *WAY, index=index)
        # Also where nobody is needed.
        self.expect_crew(crew, InvalidCrew, plan_fewest, RING, (0, 0, 0), (0, 0, 0), index=index)

    def test_no_tuple(self):
        for crew in (True, False, 0, 1, 1.5, "", "abc", [], [0], [0, 1, 2], ["a"]):
            self.expect_invalid(crew, 0)

    def test_no_barges(self):
        for item in NO_NUMBERS + (-1, 3, 8, 100):
            self.expect_invalid((item,), 0)
            self.expect_invalid((0, item), 1)
            self.expect_invalid((0, 1, item, None), 2)

    def test_barges_twice_and_not_ascending(self):
        self.expect_invalid((0, 0), 1)
        self.expect_invalid((0, 1, 2, 2), 3)
        self.expect_invalid((1, 0), 1)
        self.expect_invalid((0, 2, 1), 2)
        self.expect_invalid((2, 0, 9), 1)
        self.expect_invalid((0, 1, 2, 3), 3)

    def test_valid_crews(self):
        self.assertEqual(plan_fewest(RING, *WAY, crew=(0, 2)), [(0, 10), (2, 5)])
        self.assertEqual(plan_fewest(RING, *WAY, crew=(0, 1, 2)), [(0, 10), (2, 5)])
        self.assertEqual(plan_fewest(RING, (0, 0, 0), (5, 0, 0), crew=(0,)), [(0, 5)])
        self.expect_crew((), CrewTooSmall, plan_fewest, RING, *WAY, knot=(0,))

    def test_crew_is_checked_last(self):
        self.expect_crew([], InvalidFleet, plan_fewest, None, None, None, part="fleet", index=0)
        self.expect_crew([], InvalidPositions, plan_fewest, RING, (0, 0), (0, 0, 0), index=2)
        self.expect_crew([], BrokenRope, plan_fewest, RING, (6, 0, 0), (0, 0, 0), index=0)
        self.expect_crew([], InvalidPositions, plan_fewest, RING, (0, 0, 0), None, index=0)
        self.expect_crew([], BrokenRope, plan_fewest, RING, (0, 0, 0), (6, 0, 0), index=0)
        self.expect_crew([], InvalidGoal, plan_fewest, RING, (0, 0, 0), (0, 0, -1), barge=2)
        self.expect_crew((0, 9), InvalidCrew, plan_fewest, RING, *WAY, index=1)
        self.expect_crew((1, 1), InvalidCrew, plan_fewest, RING, *WAY, index=1)

    def test_crew_is_passed_by_keyword(self):
        self.assertRaises(TypeError, plan_fewest, RING, *WAY, (0, 2))


class NeedsHaulTest(ErrorCase):
    def test_examples(self):
        self.assertIs(needs_haul(RING, *WAY, [0, 1]), True)
        self.assertIs(needs_haul(RING, *WAY, [1]), False)

    def test_empty_list_and_no_list(self):
        for barges in (None, True, 0, 1.5, "", "0", (), (0,), (0, 1)):
            self.assertIs(needs_haul(RING, *WAY, barges), False)
        self.assertIs(needs_haul(RING, *WAY, []), False)
        self.assertIs(needs_haul(RING, *WAY, [0]), True)

    def test_items_that_are_no_barges(self):
        for item in NO_NUMBERS + (-1, 3, 8, -3):
            self.assertIs(needs_haul(RING, *WAY, [item]), False)
            self.assertIs(needs_haul(RING, *WAY, [0, item]), False)
            self.assertIs(needs_haul(RING, *WAY, [item, 0]), False)

    def test_barges_several_times_and_in_any_order(self):
        self.assertIs(needs_haul(RING, *WAY, [0, 0]), True)
        self.assertIs(needs_haul(RING, *WAY, [1, 0, 1, 1]), True)
        self.assertIs(needs_haul(RING, *WAY, [1, 1]), False)
        self.assertIs(needs_haul(RING, *WAY, [2, 1, 0]), True)
        self.assertIs(needs_haul(RING, *WAY, [2] * 50), True)

    def test_barges_that_do_not_move(self):
        self.assertIs(needs_haul(RING, (0, 0, 5), (10, 5, 5), [0]), True)
        self.assertIs(needs_haul(RING, (0, 0, 5), (10, 5, 5), [2]), False)
        self.assertIs(needs_haul(RING, (0, 0, 5), (10, 5, 5), [0, 2]), False)
        self.assertIs(needs_haul(RING, (0, 0, 0), (0, 0, 0), [0]), False)

    def test_goal_is_checked_first(self):
        self.expect(InvalidGoal, needs_haul, RING, (0, 0, 0), (4, -1, 0), None, barge=1)
        self.expect(InvalidPositions, needs_haul, RING, (0, 0, 0), (4, 0), [True], index=2)

    def test_one_of_them_must_be_hauled(self):
        for fleet, positions, goal in random_ways(150):
            for barges in lists_of(fleet[0]):
                others = tuple([barge for barge in range(fleet[0]) if barge not in barges])
                without = search_hauls(fleet, positions, goal, others, True)
                moving = all(goal[barge] > positions[barge] for barge in barges)
                if needs_haul(fleet, positions, goal, barges):
                    self.assertIsNone(without)
                    self.assertTrue(moving)
                elif moving and without is None:
                    # Only some of them show it: a leading rope leads to one of the others.
                    sources = find_source_knots(fleet, positions, goal)
                    self.assertTrue(any(set(knot) <= set(barges) for knot in sources))
            for knot in find_source_knots(fleet, positions, goal):
                self.assertIs(needs_haul(fleet, positions, goal, knot), True)


if __name__ == "__main__":
    unittest.main()
