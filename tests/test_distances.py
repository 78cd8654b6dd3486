"""Points 9 and 10: the least total distance, plans and certificates."""

import itertools
import random
import unittest

from haulropes.distances import check_certificate, distance_certificate, least_distance, plan_shortest
from haulropes.errors import (
    BrokenRope, CrewTooSmall, InvalidCertificate, InvalidCrew, InvalidFleet, InvalidGoal, InvalidPositions)
from haulropes.fleets import chain_length
from haulropes.hauling import haul, haul_all, total_distance
from haulropes.knots import find_source_knots
from support import CLASH, NO_NUMBERS, RING, ErrorCase, all_crews, random_ways, search_hauls

# Two barges, each at most 4 ahead of the other one.
PAIR = (2, ((0, 1, 4), (1, 0, 4)))
FAR = (0, 0), (20, 20)
WAY = (0, 0, 0), (10, 5, 5)
SHOWN = [((0,), 4), ((1,), 4), ((0, 1), 16)]


def costs_of(fleet, positions, goal, crew):
    """Return the own ways of all haulers, and the lags of pairs (hauler, leader), as the document defines them."""
    able = range(fleet[0]) if crew is None else crew
    ways = {barge: goal[barge] - positions[barge] for barge in able if goal[barge] > positions[barge]}
    lags = {}
    for hauler, leader in itertools.permutations(ways, 2):
        length = chain_length(fleet, leader, hauler)
        lags[hauler, leader] = ways[hauler]
        if length is not None:
            lags[hauler, leader] = min(ways[hauler], goal[hauler] - goal[leader] + length)
    return ways, lags


def least_tree(fleet, positions, goal, crew):
    """Return the least sum of costs of a tree, by growing all trees from the root."""
    ways, lags = costs_of(fleet, positions, goal, crew)
    least = {(): 0}
    for many in range(len(ways)):
        for inside in itertools.combinations(sorted(ways), many):
            for hauler in ways:
                if hauler not in inside:
                    cost = min([ways[hauler]] + [lags[hauler, leader] for leader in inside])
                    after = tuple(sorted(inside + (hauler,)))
                    least[after] = min(least[inside] + cost, least.get(after, 10 ** 9))
    return least[tuple(sorted(ways))]


def is_shown(fleet, positions, goal, certificate, crew):
    """Return whether the weights of a certificate keep to the own ways and the lags."""
    ways, lags = costs_of(fleet, positions, goal, crew)
    for hauler, way in ways.items():
        if sum(weight for group, weight in certificate if hauler in group) > way:
            return False
    for (hauler, leader), lag in lags.items():
        if sum(weight for group, weight in certificate if hauler in group and leader not in group) > lag:
            return False
    return True


def crews_at_work(fleet, positions, goal):
    """Return None and all crews that can reach a goal."""
    sources = find_source_knots(fleet, positions, goal)
    return [crew for crew in all_crews(fleet[0])
            if crew is None or all(set(knot) & set(crew) for knot in sources)]


class WayErrorsTest(ErrorCase):
    def calls(self):
        return (least_distance, plan_shortest, distance_certificate,
                lambda fleet, positions, goal, crew=None: check_certificate(fleet, positions, goal, None, crew=crew))

    def test_errors_in_order(self):
        for call in self.calls():
            for crew in ((9,), []):
                self.expect_crew(crew, InvalidFleet, call, (9, ()), None, None, part="count", index=0)
                self.expect_crew(crew, InvalidPositions, call, RING, (0, True, 0), None, index=1)
                self.expect_crew(crew, BrokenRope, call, RING, (0, 6, 0), None, index=1)
                self.expect_crew(crew, InvalidPositions, call, RING, (0, 0, 0), (0, 0), index=2)
                self.expect_crew(crew, BrokenRope, call, RING, (0, 0, 0), (0, 0, 6), index=2)
                self.expect_crew(crew, InvalidGoal, call, RING, (0, 0, 0), (-1, -1, 0), barge=0)
                self.expect_crew(crew, InvalidCrew, call, RING, *WAY, index=0)
            self.expect(BrokenRope, call, CLASH, (0, 0), (0, 0), index=1)
            self.expect_crew((0, 1), CrewTooSmall, call, RING, *WAY, knot=(2,))

    def test_crews(self):
        for call in self.calls():
            for crew in (True, 0, "", "abc", [], [0, 2]):
                self.expect_crew(crew, InvalidCrew, call, RING, *WAY, index=0)
            for item in NO_NUMBERS + (-1, 3, 0):
                self.expect_crew((0, item), InvalidCrew, call, RING, *WAY, index=1)
            self.expect_crew((0, 2, 1), InvalidCrew, call, RING, *WAY, index=2)
            self.expect_crew((3,), InvalidCrew, call, RING, (0, 0, 0), (0, 0, 0), index=0)
            self.expect_crew((), CrewTooSmall, call, RING, *WAY, knot=(0,))
            self.expect_crew((1, 2), CrewTooSmall, call, RING, *WAY, knot=(0,))
            rod = (3, ((1, 2, 3), (2, 1, -3)))
            self.expect_crew((0,), CrewTooSmall, call, rod, (0, 3, 0), (1, 4, 1), knot=(1, 2))


class DistanceTest(ErrorCase):
    def test_examples(self):
        self.assertEqual(least_distance(RING, *WAY), 15)
        self.assertEqual(least_distance(PAIR, *FAR), 24)
        self.assertEqual(plan_shortest((2, ((0, 1, 4),)), *FAR), [(0, 20), (1, 20)])

    def test_nothing_moves(self):
        for crew in (None, (), (0,), (0, 1, 2)):
            self.assertEqual(least_distance(RING, (10, 5, 5), (10, 5, 5), crew=crew), 0)
            self.assertEqual(plan_shortest(RING, (10, 5, 5), (10, 5, 5), crew=crew), [])

    def test_one_barge(self):
        self.assertEqual(least_distance((1, ()), (-9999,), (9999,)), 19998)
        self.assertEqual(plan_shortest((1, ()), (-9999,), (9999,)), [(0, 9999)])

    def test_no_ropes(self):
        self.assertEqual(least_distance((8, ()), (0,) * 8, tuple(range(8))), 28)
        plan = plan_shortest((8, ()), (0,) * 8, tuple(range(8)))
        self.assertEqual(sorted(plan), [(barge, barge) for barge in range(1, 8)])

    def test_rods_need_one_haul(self):
        rod = (2, ((0, 1, 3), (1, 0, -3)))
        self.assertEqual(least_distance(rod, (3, 0), (9, 6)), 6)
        self.assertIn(plan_shortest(rod, (3, 0), (9, 6)), ([(0, 9)], [(1, 6)]))
        self.assertEqual(plan_shortest(rod, (3, 0), (9, 6), crew=(0,)), [(0, 9)])
        self.assertEqual(plan_shortest(rod, (3, 0), (9, 6), crew=(1,)), [(1, 6)])

    def test_order_of_the_hauls(self):
        # The total distance is 60 if barge 1 is hauled first.
        fleet = (2, ((0, 1, 5), (1, 0, 30)))
        self.assertEqual(least_distance(fleet, (0, 0), (30, 30)), 35)
        self.assertEqual(plan_shortest(fleet, (0, 0), (30, 30)), [(0, 30), (1, 30)])

    def test_lag_is_at_most_the_own_way(self):
        fleet = (2, ((0, 1, 50), (1, 0, 50)))
        self.assertEqual(least_distance(fleet, (0, 0), (20, 30)), 50)
        self.assertEqual(least_distance(fleet, (0, 20), (60, 30)), 70)

    def test_lag_along_a_chain(self):
        # Barges 1 and 2 are not of the crew, the chain leads along them all the same.
        fleet = (4, ((0, 1, 3), (1, 2, 3), (2, 3, 3)))
        self.assertEqual(least_distance(fleet, (0, 0, 0, 0), (30, 27, 24, 24), crew=(0, 3)), 33)
        self.assertEqual(least_distance(fleet, (0, 0, 0, 0), (30, 27, 24, 24)), 33)

    def test_some_crews(self):
        fleet = (3, ((0, 1, 0), (1, 2, 1), (2, 0, 3)))
        way = (0, 0, 0), (20, 20, 20)
        for crew in (None, (0, 2), (0, 1, 2)):
            self.assertEqual(least_distance(fleet, *way, crew=crew), 21)
        self.assertEqual(plan_shortest(fleet, *way, crew=(0, 2)), [(0, 20), (2, 20)])
        self.expect_crew((1, 2), CrewTooSmall, least_distance, fleet, *way, knot=(0,))
        self.expect_crew((0, 1), CrewTooSmall, least_distance, fleet, *way, knot=(2,))

    def test_no_choice_of_single_leaders(self):
        # The cheapest edges to barges 0, 1 and 2 form a circle, which the root has to enter at barge 2.
        fleet = (3, ((0, 1, 1), (1, 2, 1), (2, 0, 1)))
        positions, goal = (0, 0, 1), (20, 20, 20)
        self.assertEqual(least_distance(fleet, positions, goal), 21)
        self.assertEqual(plan_shortest(fleet, positions, goal), [(2, 20), (0, 20), (1, 20)])
        self.assertEqual(total_distance(fleet, positions, [(2, 20), (0, 20), (1, 20)]), 21)

    def test_against_a_search(self):
        less = 0
        for fleet, positions, goal in random_ways(250):
            for crew in all_crews(fleet[0]):
                least = search_hauls(fleet, positions, goal, crew, True)
                if least is None:
                    with self.assertRaises(CrewTooSmall):
                        least_distance(fleet, positions, goal, crew=crew)
                else:
                    self.assertEqual(least_distance(fleet, positions, goal, crew=crew), least)
                    less += least < sum(goal) - sum(positions)
        self.assertGreater(less, 100)

    def test_against_all_trees(self):
        source = random.Random(7)
        for fleet, positions, goal in self.large_ways():
            able = tuple([barge for barge in range(fleet[0]) if source.random() < 0.8])
            for crew in (None, able):
                if crew in crews_at_work(fleet, positions, goal):
                    least = least_tree(fleet, positions, goal, crew)
                    self.assertEqual(least_distance(fleet, positions, goal, crew=crew), least)
                    self.check_plan(fleet, positions, goal, crew)
                    self.check_shown(fleet, positions, goal, crew)

    def large_ways(self):
        steps = (0, 5, 40, 41, 42, 43, 60, 100)
        return random_ways(160, seed=3, steps=steps, farthest=999, most_barges=8, low=-5, high=40)

    def test_plans(self):
        for fleet, positions, goal in random_ways(300, farthest=99):
            for crew in crews_at_work(fleet, positions, goal):
                self.check_plan(fleet, positions, goal, crew)

    def check_plan(self, fleet, positions, goal, crew):
        plan = plan_shortest(fleet, positions, goal, crew=crew)
        self.assertIs(type(plan), list)
        self.assertEqual(haul_all(fleet, positions, plan), goal)
        self.assertEqual(total_distance(fleet, positions, plan), least_distance(fleet, positions, goal, crew=crew))
        barges = [barge for barge, _ in plan]
        self.assertEqual(len(barges), len(set(barges)))
        for barge, target in plan:
            self.assertTrue(crew is None or barge in crew)
            self.assertEqual(target, goal[barge])
            self.assertGreater(target, positions[barge])
            positions = haul(fleet, positions, barge, target)

    def check_shown(self, fleet, positions, goal, crew):
        certificate = distance_certificate(fleet, positions, goal, crew=crew)
        self.assertIs(type(certificate), list)
        for entry in certificate:
            self.assertEqual((type(entry), type(entry[0])), (tuple, tuple))
        least = least_distance(fleet, positions, goal, crew=crew)
        self.assertEqual(sum(weight for _, weight in certificate), least)
        self.assertTrue(is_shown(fleet, positions, goal, certificate, crew))
        self.assertEqual(check_certificate(fleet, positions, goal, certificate, crew=crew), least)

    def test_certificates(self):
        for fleet, positions, goal in random_ways(300, farthest=99):
            for crew in crews_at_work(fleet, positions, goal):
                self.check_shown(fleet, positions, goal, crew)


class CertificateTest(ErrorCase):
    def expect_entry(self, entry, kept=SHOWN):
        """Check that an item is no entry, alone and behind entries."""
        self.expect(InvalidCertificate, check_certificate, PAIR, *FAR, [entry], index=0)
        self.expect(InvalidCertificate, check_certificate, PAIR, *FAR, kept + [entry, None], index=len(kept))

    def test_examples(self):
        certificate = distance_certificate(RING, *WAY)
        self.assertEqual(check_certificate(RING, *WAY, certificate), 15)
        self.assertEqual(check_certificate(PAIR, *FAR, SHOWN), 24)
        self.assertIsNone(check_certificate(PAIR, *FAR, [((0,), 5)]))

    def test_nothing_moves(self):
        self.assertEqual(check_certificate(RING, (0, 0, 0), (0, 0, 0), []), 0)
        certificate = distance_certificate(RING, (0, 0, 0), (0, 0, 0))
        self.assertEqual(check_certificate(RING, (0, 0, 0), (0, 0, 0), certificate), 0)
        self.expect(InvalidCertificate, check_certificate, RING, (0, 0, 0), (0, 0, 0), [((0,), 0)], index=0)

    def test_no_list(self):
        for certificate in (None, True, 0, 1.5, "", "abc", (), tuple(SHOWN), (((0,), 99),)):
            self.expect(InvalidCertificate, check_certificate, PAIR, *FAR, certificate, index=0)

    def test_no_tuples_of_two_items(self):
        for entry in NO_NUMBERS + (0, 4, ((0,),), ((0,), 4, 4), [(0,), 4], "04"):
            self.expect_entry(entry)

    def test_weights(self):
        for weight in NO_NUMBERS + (-1, 19999, 100000):
            self.expect_entry(((0,), weight))
        self.assertEqual(check_certificate(PAIR, *FAR, [((0,), 0)]), 0)
        self.assertEqual(check_certificate(PAIR, *FAR, [((0,), 4), ((0,), 0)]), 4)
        # The greatest weight is one of an entry, whether it is shown or not.
        self.assertIsNone(check_certificate(PAIR, *FAR, [((0, 1), 19998)]))
        self.assertEqual(check_certificate((1, ()), (-9999,), (9999,), [((0,), 19998)]), 19998)

    def test_haulers(self):
        for haulers in NO_NUMBERS + (0, "0", [0], [0, 1], (-1,), (2,), (8,), (0, 2), (None,), ((0,),), (True,), (0, True)):
            if haulers != (1,):
                self.expect_entry((haulers, 1))

    def test_ascending_and_not_empty(self):
        for haulers in ((), (0, 0), (1, 1), (1, 0), (0, 1, 1), (0, 1, 0)):
            self.expect_entry((haulers, 0))

    def test_barges_that_are_no_haulers(self):
        positions, goal = (0, 0, 5), (10, 5, 5)
        self.assertEqual(check_certificate(RING, positions, goal, [((0, 1), 5)]), 5)
        for haulers in ((2,), (0, 2), (0, 1, 2)):
            self.expect(InvalidCertificate, check_certificate, RING, positions, goal, [((0,), 1), (haulers, 0)], index=1)
        self.assertEqual(check_certificate(PAIR, (0, 0), (20, 16), [((0,), 4), ((0, 1), 16)], crew=None), 20)
        for haulers in ((1,), (0, 1)):
            self.expect_crew((0,), InvalidCertificate, check_certificate, PAIR, (0, 0), (20, 16),
                             [((0,), 20), (haulers, 0)], index=1)
        self.assertEqual(check_certificate(PAIR, (0, 0), (20, 16), [((0,), 20)], crew=(0,)), 20)

    def test_first_wrong_item_is_told(self):
        self.expect(InvalidCertificate, check_certificate, PAIR, *FAR, [((0,), 99), ((1,), True), None], index=1)
        self.expect(InvalidCertificate, check_certificate, PAIR, *FAR, [((0,), 99), ((1,), 99), []], index=2)

    def test_after_all_other_errors(self):
        for certificate in (None, [None]):
            self.expect(InvalidFleet, check_certificate, (2, [0]), *FAR, certificate, part="ropes", index=0)
            self.expect(InvalidPositions, check_certificate, PAIR, (0,), (20, 20), certificate, index=1)
            self.expect(BrokenRope, check_certificate, PAIR, (0, 0), (20, 15), certificate, index=0)
            self.expect(InvalidGoal, check_certificate, PAIR, (0, 0), (0, -1), certificate, barge=1)
            self.expect_crew((1, 1), InvalidCrew, check_certificate, PAIR, *FAR, certificate, index=1)
            self.expect_crew((), CrewTooSmall, check_certificate, PAIR, *FAR, certificate, knot=(0,))

    def test_own_way_bounds_the_sum(self):
        self.assertEqual(check_certificate(PAIR, *FAR, [((0, 1), 20)]), 20)
        self.assertIsNone(check_certificate(PAIR, *FAR, [((0, 1), 21)]))
        self.assertEqual(check_certificate(PAIR, *FAR, [((0, 1), 10)] * 2), 20)
        self.assertIsNone(check_certificate(PAIR, *FAR, [((0, 1), 10)] * 2 + [((0,), 1)]))
        self.assertIsNone(check_certificate((1, ()), (0,), (5,), [((0,), 3), ((0,), 3)]))
        self.assertEqual(check_certificate((2, ()), (0, 0), (5, 2), [((0, 1), 2), ((0,), 3)]), 5)
        self.assertIsNone(check_certificate((2, ()), (0, 0), (5, 2), [((0, 1), 3)]))

    def test_lag_bounds_the_sum(self):
        self.assertEqual(check_certificate(PAIR, *FAR, [((0,), 2), ((0,), 2)]), 4)
        self.assertIsNone(check_certificate(PAIR, *FAR, [((0,), 2), ((0,), 3)]))
        self.assertIsNone(check_certificate(PAIR, *FAR, [((1,), 5)]))
        # Only barge 1 lags, as no chain leads from it to barge 0.
        loose = (2, ((0, 1, 4),))
        self.assertEqual(check_certificate(loose, *FAR, [((0,), 20), ((1,), 4)]), 24)
        self.assertIsNone(check_certificate(loose, *FAR, [((0,), 20), ((1,), 5)]))

    def test_lag_behind_barges_of_the_crew_only(self):
        # Nothing can be dragged to its goal by a barge that nobody hauls.
        self.assertIsNone(check_certificate(PAIR, (0, 0), (20, 16), [((0,), 20)]))
        self.assertEqual(check_certificate(PAIR, (0, 0), (20, 16), [((0,), 20)], crew=(0,)), 20)

    def test_less_than_the_least_distance(self):
        self.assertEqual(check_certificate(PAIR, *FAR, []), 0)
        self.assertEqual(check_certificate(PAIR, *FAR, SHOWN[:2]), 8)
        self.assertEqual(check_certificate(PAIR, *FAR, SHOWN[::-1]), 24)
        self.assertEqual(check_certificate(PAIR, *FAR, [((0, 1), 8), ((0,), 4), ((0, 1), 8), ((1,), 4)]), 24)

    def test_changed_certificates(self):
        refused = 0
        for fleet, positions, goal in random_ways(60, farthest=99):
            for crew in crews_at_work(fleet, positions, goal):
                certificate = distance_certificate(fleet, positions, goal, crew=crew)
                least = least_distance(fleet, positions, goal, crew=crew)
                for changed in self.changes(certificate):
                    shown = check_certificate(fleet, positions, goal, changed, crew=crew)
                    if is_shown(fleet, positions, goal, changed, crew):
                        self.assertEqual(shown, sum(weight for _, weight in changed))
                        self.assertLessEqual(shown, least)
                    else:
                        self.assertIsNone(shown)
                        refused += 1
        self.assertGreater(refused, 50)

    def changes(self, certificate):
        """Return certificates in which one weight is changed, or one entry is missing, doubled or smaller."""
        found = []
        for index, (haulers, weight) in enumerate(certificate):
            before, behind = certificate[:index], certificate[index + 1:]
            found.append(before + behind)
            found.append(before + [(haulers, weight)] * 2 + behind)
            found.append(before + [(haulers, weight + 1)] + behind)
            found.append(before + [(haulers, weight - 1)] + behind)
            if len(haulers) > 1:
                found.append(before + [(haulers[1:], weight)] + behind)
        return found


if __name__ == "__main__":
    unittest.main()
