"""What several test files use."""

import itertools
import random
import unittest

# Three barges in a circle of ropes, as in the examples of the document.
RING = (3, ((0, 1, 5), (1, 2, 5), (2, 0, 5)))
# Two barges that cannot lie anywhere.
CLASH = (2, ((0, 1, 3), (1, 0, -4)))

# Values that are no integers, of the kinds that an invalid argument may have.
NO_NUMBERS = (True, False, None, "1", "", 1.0, 0.5, (), (1,), [], [1])


class ErrorCase(unittest.TestCase):
    def expect(self, kind, call, *arguments, **attributes):
        """Check that a call raises exactly this error with exactly these attributes."""
        self.expect_with({}, kind, call, *arguments, **attributes)

    def expect_crew(self, crew, kind, call, *arguments, **attributes):
        """Check the same of a call with this crew."""
        self.expect_with({"crew": crew}, kind, call, *arguments, **attributes)

    def expect_with(self, keywords, kind, call, *arguments, **attributes):
        """Check the same of a call with keywords."""
        with self.assertRaises(kind) as caught:
            call(*arguments, **keywords)
        self.assertIs(type(caught.exception), kind)
        self.assertEqual(vars(caught.exception), attributes)
        for value in vars(caught.exception).values():
            self.assertIsNot(type(value), bool)


class HarborCase(ErrorCase):
    def expect_unchanged(self, harbor, kind, call, *arguments, **attributes):
        """Check that a call raises this error and changes nothing, also not what undo and redo do."""
        before = show_course(harbor)
        self.expect(kind, call, *arguments, **attributes)
        self.assertEqual(show_course(harbor), before)


def random_fleets(many, most_barges=5, low=-9, high=15, seed=1):
    """Return the same mixed fleets at every run, with and without contradictions."""
    source = random.Random(seed)
    fleets = []
    for _ in range(many):
        count = source.randint(1, most_barges)
        ropes = []
        for _ in range(source.randint(0, 2 * count) if count > 1 else 0):
            front, rear = source.sample(range(count), 2)
            ropes.append((front, rear, source.randint(low, high)))
        fleets.append((count, tuple(ropes)))
    return fleets


def calm_fleets(many, **limits):
    """Return random fleets with valid positions near 0."""
    pairs = []
    for fleet in random_fleets(many, **limits):
        if not is_contradictory(fleet):
            pairs.append((fleet, settle(fleet, (0,) * fleet[0])))
    return pairs


def random_ways(many, seed=2, steps=(0, 0, 1, 2, 3, 5), farthest=8, **limits):
    """Return fleets with few tight ropes, positions, and goals that are at most so far away."""
    source = random.Random(seed)
    limits = {"most_barges": 4, "low": -3, "high": 4, "seed": seed, **limits}
    ways = []
    for fleet, _ in calm_fleets(many, **limits):
        positions = settle(fleet, [source.randint(0, 3) for _ in range(fleet[0])])
        goal = settle(fleet, [position + source.choice(steps) for position in positions])
        if max(there - here for here, there in zip(positions, goal)) <= farthest:
            ways.append((fleet, positions, goal))
    return ways


def all_crews(count):
    """Return None and all crews of so many barges."""
    crews = [None]
    for many in range(count + 1):
        crews += itertools.combinations(range(count), many)
    return crews


def search_hauls(fleet, positions, goal, crew, single_steps):
    """Return the least number of hauls to a goal, by trying all of them, or None.

    With single steps, each haul leads ahead by 1, and the number is the least total distance.
    """
    crew = range(fleet[0]) if crew is None else crew
    found = {tuple(positions): 0}
    queue = [tuple(positions)]
    for current in queue:
        if current == goal:
            return found[current]
        for barge in crew:
            last = min(current[barge] + 1, goal[barge]) if single_steps else goal[barge]
            for target in range(current[barge] + 1, last + 1):
                moved = list(current)
                moved[barge] = target
                after = settle(fleet, moved)
                if after not in found and all(there <= most for there, most in zip(after, goal)):
                    found[after] = found[current] + 1
                    queue.append(after)
    return None


def simple_chains(fleet, front, rear):
    """Return the lengths of all chains without a barge twice, by trying all orders of barges."""
    count, ropes = fleet
    if front == rear:
        return [0]
    between = [barge for barge in range(count) if barge not in (front, rear)]
    lengths = []
    for many in range(len(between) + 1):
        for middle in itertools.permutations(between, many):
            total = path_length(ropes, (front,) + middle + (rear,))
            if total is not None:
                lengths.append(total)
    return lengths


def path_length(ropes, path):
    """Return the least length of a chain along a path of barges, or None."""
    total = 0
    for step in zip(path, path[1:]):
        fitting = [rope[2] for rope in ropes if rope[:2] == step]
        if not fitting:
            return None
        total += min(fitting)
    return total


def is_contradictory(fleet):
    """Return whether a path of distinct barges closes to a circle of negative length."""
    count, ropes = fleet
    for many in range(2, count + 1):
        for path in itertools.permutations(range(count), many):
            total = path_length(ropes, path + path[:1])
            if total is not None and total < 0:
                return True
    return False


def settle(fleet, positions):
    """Return the least valid positions ahead of positions, by moving rear barges again and again."""
    positions = list(positions)
    moved = True
    while moved:
        moved = False
        for front, rear, length in fleet[1]:
            if positions[front] - length > positions[rear]:
                positions[rear] = positions[front] - length
                moved = True
    return tuple(positions)


def show_state(harbor):
    """Return what a harbor tells of itself."""
    return (
        harbor.current_fleet(), harbor.current_positions(), harbor.distance(), harbor.history(),
        harbor.checkpoints(), harbor.is_busy())


def show_course(harbor):
    """Return what a harbor tells of itself now, behind each undo and behind each redo, and leave it as it is."""
    shown = [show_state(harbor)]
    many = 0
    while harbor.undo():
        many += 1
        shown.append(show_state(harbor))
    for _ in range(many):
        harbor.redo()
    many = 0
    while harbor.redo():
        many += 1
        shown.append(show_state(harbor))
    for _ in range(many):
        harbor.undo()
    return shown
