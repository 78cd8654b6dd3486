"""Point 14: undo and redo, checkpoints, lists of operations and replay."""

import random
import unittest

from haulropes.distances import least_distance
from haulropes.errors import (
    BrokenRope, HaulError, InvalidFleet, InvalidGoal, InvalidHaul, InvalidName, InvalidOperation, InvalidPositions,
    InvalidRope, UnknownCheckpoint, UnknownRope)
from haulropes.harbor import Harbor, replay
from support import CLASH, NO_NUMBERS, RING, ErrorCase, HarborCase, calm_fleets, settle, show_course, show_state

START = (10, 5, 5)
# One operation of each kind, which can follow each other from (10, 5, 5) on, and their results.
OPERATIONS = [("haul", 0, 14), ("tie", (0, 2, 20)), ("change", 1, 9), ("cut", 0), ("reach", (20, 10, 7))]
RESULTS = [(14, 9, 5), 3, 5, (0, 1, 5), 9]
# The fleet, the positions and the distance ahead of these operations and behind each of them.
STATES = [
    (RING, START, 0),
    (RING, (14, 9, 5), 4),
    ((3, RING[1] + ((0, 2, 20),)), (14, 9, 5), 4),
    ((3, ((0, 1, 5), (1, 2, 9), (2, 0, 5), (0, 2, 20))), (14, 9, 5), 4),
    ((3, ((1, 2, 9), (2, 0, 5), (0, 2, 20))), (14, 9, 5), 4),
    ((3, ((1, 2, 9), (2, 0, 5), (0, 2, 20))), (20, 10, 7), 13),
]
# Items that are no operations.
WRONG_ITEMS = NO_NUMBERS + (
    0, "cut", ("cut",), ("cut", 0, 0), ["cut", 0], ("haul",), ("haul", 0), ("haul", 0, 14, 0), ("tie",),
    ("tie", 0, 1, 5), ("change", 0), ("change", 0, 5, 5), ("reach",), ("reach", 14, 9, 5), ("undo",), ("redo",),
    ("Cut", 0), ("cut ", 0), ("", 0), ("cu", 0), (0, 0), (True, 0), (None, 0), (["cut"], 0), (("cut",), 0),
    ({"cut": 0}, 0), ("save", "a"), ("haul_barge", 0, 14))


def ready():
    """Return a harbor after OPERATIONS."""
    return replay(RING, START, OPERATIONS)


def hold(harbor):
    """Return what a harbor holds."""
    return harbor.current_fleet(), harbor.current_positions(), harbor.distance()


class UndoTest(HarborCase):
    def test_example(self):
        harbor = Harbor(RING, START)
        harbor.haul_barge(0, 14)
        shown = [harbor.undo(), harbor.undo(), harbor.redo(), harbor.current_positions()]
        self.assertEqual(shown, [True, False, True, (14, 9, 5)])
        harbor = Harbor(RING, START)
        harbor.haul_barge(0, 14)
        self.assertEqual(harbor.history(), [("haul", 0, 14)])

    def test_nothing_to_undo_or_redo(self):
        harbor = Harbor(RING, START)
        self.assertIs(harbor.undo(), False)
        self.assertIs(harbor.redo(), False)
        self.assertEqual(hold(harbor), STATES[0])

    def test_each_kind_by_itself(self):
        for many, operation in enumerate(OPERATIONS):
            harbor = replay(RING, START, OPERATIONS[:many])
            self.assertEqual(harbor.apply_all([operation]), [RESULTS[many]])
            self.assertEqual(hold(harbor), STATES[many + 1])
            self.assertIs(harbor.undo(), True)
            self.assertEqual(hold(harbor), STATES[many])
            self.assertEqual(harbor.history(), OPERATIONS[:many])
            self.assertIs(harbor.redo(), True)
            self.assertEqual(hold(harbor), STATES[many + 1])
            self.assertEqual(harbor.history(), OPERATIONS[:many + 1])
            self.assertIs(harbor.redo(), False)

    def test_several_in_a_row(self):
        harbor = ready()
        for many in (4, 3, 2, 1, 0):
            self.assertIs(harbor.undo(), True)
            self.assertEqual((hold(harbor), harbor.history()), (STATES[many], OPERATIONS[:many]))
        self.assertIs(harbor.undo(), False)
        for many in (1, 2, 3, 4, 5):
            self.assertIs(harbor.redo(), True)
            self.assertEqual((hold(harbor), harbor.history()), (STATES[many], OPERATIONS[:many]))
        self.assertIs(harbor.redo(), False)
        self.assertEqual(hold(harbor), STATES[5])

    def test_new_operation_in_between(self):
        harbor = ready()
        harbor.undo()
        harbor.undo()
        harbor.redo()
        harbor.undo()
        self.assertEqual(harbor.tie_rope((2, 1, 1)), 4)
        self.assertIs(harbor.redo(), False)
        self.assertEqual(harbor.history(), OPERATIONS[:3] + [("tie", (2, 1, 1))])
        harbor.undo()
        self.assertEqual(hold(harbor), STATES[3])
        self.assertIs(harbor.redo(), True)
        self.assertIs(harbor.redo(), False)

    def test_each_new_operation_ends_redo(self):
        for operation in (("haul", 1, 9), ("tie", (0, 1, 9)), ("cut", 3), ("change", 0, 6), ("reach", (14, 9, 6))):
            harbor = replay(RING, START, OPERATIONS[:4])
            harbor.undo()
            harbor.undo()
            harbor.apply_all([operation])
            self.assertIs(harbor.redo(), False)
            self.assertEqual(harbor.history(), OPERATIONS[:2] + [operation])

    def test_calls_that_are_no_operations_do_not_end_redo(self):
        harbor = ready()
        harbor.undo()
        harbor.save("a")
        harbor.checkpoints()
        harbor.history().clear()
        harbor.apply_all([])
        self.assertIs(harbor.redo(), True)
        self.assertEqual(hold(harbor), STATES[5])

    def test_history_is_a_list_of_its_own(self):
        harbor = ready()
        history = harbor.history()
        history.pop()
        history[0] = "changed"
        self.assertEqual(harbor.history(), OPERATIONS)
        self.assertEqual([harbor.undo(), harbor.redo()], [True, True])
        self.assertEqual(hold(harbor), STATES[5])


class CheckpointTest(HarborCase):
    def test_example(self):
        harbor = Harbor(RING, START)
        harbor.save("a")
        harbor.haul_barge(0, 14)
        harbor.restore("a")
        self.assertEqual([harbor.current_positions(), harbor.checkpoints()], [START, ["a"]])

    def test_names(self):
        harbor = Harbor(RING, START)
        for name in ("a", "z", "abcdefgh", "stuvwxyz", "az"):
            self.assertIsNone(harbor.save(name))
            self.assertIsNone(harbor.restore(name))
        self.assertEqual(harbor.checkpoints(), ["a", "abcdefgh", "az", "stuvwxyz", "z"])

    def test_wrong_names(self):
        harbor = ready()
        harbor.save("a")
        harbor.undo()
        wrong = NO_NUMBERS + (
            "", "abcdefghi", "A", "aB", "ABCDEFGH", "a1", "1", "a b", " a", "a ", "a\n", "a_b", "a-b", "@", "`", "{",
            "\xe4", "\xdf", "a\u0131", "\u03b1", ("a",), ["a"], {"a": 1}, 0)
        for name in wrong:
            self.expect_unchanged(harbor, InvalidName, harbor.save, name)
            self.expect_unchanged(harbor, UnknownCheckpoint, harbor.restore, name)
        self.expect_unchanged(harbor, UnknownCheckpoint, harbor.restore, "b")
        self.expect_unchanged(harbor, UnknownCheckpoint, harbor.restore, "aa")

    def test_everything_is_restored(self):
        harbor = ready()
        harbor.undo()
        harbor.undo()
        harbor.save("here")
        before = show_course(harbor)
        harbor.change_length(0, 50)
        harbor.haul_barge(2, 40)
        harbor.undo()
        harbor.restore("here")
        self.assertEqual(show_course(harbor), before)

    def test_undo_and_redo_behind_restore(self):
        harbor = ready()
        harbor.undo()
        harbor.save("four")
        while harbor.undo():
            pass
        harbor.haul_barge(2, 6)
        harbor.restore("four")
        self.assertEqual((hold(harbor), harbor.history()), (STATES[4], OPERATIONS[:4]))
        self.assertIs(harbor.redo(), True)
        self.assertEqual(hold(harbor), STATES[5])
        self.assertIs(harbor.redo(), False)
        for many in (4, 3, 2, 1, 0):
            self.assertIs(harbor.undo(), True)
            self.assertEqual(hold(harbor), STATES[many])
        self.assertIs(harbor.undo(), False)

    def test_restore_is_not_undone(self):
        harbor = Harbor(RING, START)
        harbor.save("a")
        harbor.haul_barge(0, 14)
        harbor.restore("a")
        self.assertEqual((harbor.undo(), harbor.redo(), harbor.history()), (False, False, []))

    def test_a_checkpoint_is_restored_again_and_again(self):
        harbor = ready()
        harbor.save("a")
        for _ in range(3):
            harbor.undo()
            harbor.undo()
            harbor.haul_barge(0, 30)
            harbor.restore("a")
            self.assertEqual((hold(harbor), harbor.history()), (STATES[5], OPERATIONS))

    def test_saving_under_a_name_again(self):
        harbor = Harbor(RING, START)
        harbor.save("a")
        harbor.haul_barge(0, 14)
        harbor.save("b")
        harbor.save("a")
        harbor.haul_barge(0, 20)
        harbor.restore("a")
        self.assertEqual((harbor.current_positions(), harbor.checkpoints()), ((14, 9, 5), ["a", "b"]))

    def test_checkpoints_stay_behind_undo_and_restore(self):
        harbor = Harbor(RING, START)
        harbor.haul_barge(0, 14)
        harbor.save("b")
        harbor.undo()
        self.assertEqual(harbor.checkpoints(), ["b"])
        harbor.save("a")
        harbor.restore("b")
        self.assertEqual(harbor.checkpoints(), ["a", "b"])
        harbor.undo()
        self.assertEqual(harbor.checkpoints(), ["a", "b"])
        harbor.restore("a")
        self.assertEqual((harbor.checkpoints(), harbor.redo()), (["a", "b"], True))
        self.assertEqual(harbor.checkpoints(), ["a", "b"])

    def test_checkpoints_are_a_list_of_their_own(self):
        harbor = Harbor(RING, START)
        harbor.save("a")
        harbor.checkpoints().append("b")
        harbor.checkpoints().clear()
        self.assertEqual(harbor.checkpoints(), ["a"])
        self.expect_unchanged(harbor, UnknownCheckpoint, harbor.restore, "b")


class Watched(Harbor):
    """A harbor that notes whether it is busy at each haul."""

    def haul_barge(self, barge, position):
        self.noted = getattr(self, "noted", []) + [self.is_busy()]
        return super().haul_barge(barge, position)


class ApplyTest(HarborCase):
    def test_examples(self):
        results = Harbor(RING, START).apply_all([("cut", 1), ("haul", 1, 9)])
        self.assertEqual(results, [(1, 2, 5), (10, 9, 5)])
        self.expect(InvalidOperation, Harbor(RING, START).apply_all, [("cut", 1), ("cut",)], index=1)
        self.assertIs(Harbor(RING, START).is_busy(), False)

    def test_all_kinds(self):
        harbor = Harbor(RING, START)
        operations = list(OPERATIONS)
        self.assertEqual(harbor.apply_all(operations), RESULTS)
        self.assertEqual(operations, OPERATIONS)
        self.assertEqual((hold(harbor), harbor.history()), (STATES[5], OPERATIONS))

    def test_empty_list(self):
        harbor = ready()
        harbor.undo()
        before = show_course(harbor)
        self.assertEqual(harbor.apply_all([]), [])
        self.assertEqual(show_course(harbor), before)

    def test_undo_takes_back_one_operation(self):
        harbor = Harbor(RING, START)
        harbor.apply_all(OPERATIONS[:3])
        harbor.apply_all(OPERATIONS[3:])
        for many in (4, 3, 2, 1, 0):
            self.assertIs(harbor.undo(), True)
            self.assertEqual((hold(harbor), harbor.history()), (STATES[many], OPERATIONS[:many]))
        self.assertIs(harbor.undo(), False)

    def test_no_list(self):
        harbor = ready()
        harbor.undo()
        for value in (None, True, 0, "", "cut", (), tuple(OPERATIONS), OPERATIONS[0], {"cut": 1}):
            self.expect_unchanged(harbor, InvalidOperation, harbor.apply_all, value, index=0)

    def test_items_that_are_no_operations(self):
        harbor = ready()
        harbor.undo()
        for item in WRONG_ITEMS:
            self.expect_unchanged(harbor, InvalidOperation, harbor.apply_all, [item], index=0)
            self.expect_unchanged(harbor, InvalidOperation, harbor.apply_all, [("cut", 0), item, None], index=1)

    def test_invalid_operations_come_ahead_of_failing_ones(self):
        harbor = ready()
        self.expect_unchanged(harbor, InvalidOperation, harbor.apply_all, [("cut", 9), ("cut",)], index=1)
        self.expect_unchanged(harbor, UnknownRope, harbor.apply_all, [("cut", 9), ("cut", 0)])

    def test_an_operation_that_fails_in_the_middle(self):
        harbor = replay(RING, START, OPERATIONS[:2])
        harbor.save("a")
        harbor.undo()
        failing = (
            (("haul", 0, 13), InvalidHaul, {"index": 0}),
            (("haul", None, 20), InvalidHaul, {"index": 0}),
            (("tie", [0, 1, 5]), InvalidRope, {}),
            (("tie", (1, 2, 3)), BrokenRope, {"index": 2}),
            (("cut", 2), UnknownRope, {}),
            (("cut", "0"), UnknownRope, {}),
            (("change", 0, 100), InvalidRope, {}),
            (("change", 0, 3), BrokenRope, {"index": 0}),
            (("reach", [20, 20, 20]), InvalidPositions, {"index": 0}),
            (("reach", (20, 20, 14)), BrokenRope, {"index": 0}),
            (("reach", (19, 19, 14)), InvalidGoal, {"barge": 0}),
        )
        for operation, kind, attributes in failing:
            operations = [("cut", 0), ("haul", 0, 20), operation, ("haul", 0, 30)]
            self.expect_unchanged(harbor, kind, harbor.apply_all, operations, **attributes)
        self.assertEqual((harbor.redo(), harbor.history()), (True, OPERATIONS[:2]))

    def test_later_operations_find_what_earlier_ones_did(self):
        harbor = Harbor((2, ()), (0, 0))
        operations = [("tie", (0, 1, 3)), ("haul", 0, 9), ("cut", 0), ("haul", 0, 20), ("tie", (0, 1, 14))]
        self.assertEqual(harbor.apply_all(operations), [0, (9, 6), (0, 1, 3), (20, 6), 0])

    def test_positions_that_become_too_great_in_between(self):
        harbor = Harbor((2, ((0, 1, -50),)), (0, 50))
        self.assertEqual(harbor.apply_all([("haul", 0, 9960)]), [(9960, 10010)])
        harbor.undo()
        operations = [("haul", 0, 9960), ("cut", 0)]
        self.expect_unchanged(harbor, InvalidPositions, harbor.apply_all, operations, index=1)
        self.assertIs(harbor.redo(), True)

    def test_is_busy(self):
        harbor = Watched(RING, START)
        self.assertIs(harbor.is_busy(), False)
        harbor.apply_all([("haul", 0, 14), ("haul", 0, 15)])
        self.assertIs(harbor.is_busy(), False)
        harbor.haul_barge(0, 16)
        self.expect(InvalidHaul, harbor.apply_all, [("haul", 0, 17), ("haul", 0, 1)], index=0)
        self.assertIs(harbor.is_busy(), False)
        self.expect(InvalidOperation, harbor.apply_all, [("haul", 0, 17), None], index=1)
        self.assertIs(harbor.is_busy(), False)
        harbor.haul_barge(0, 17)
        self.assertEqual(harbor.noted, [True, True, False, True, True, False])

    def test_is_busy_behind_undo_and_restore(self):
        harbor = Harbor(RING, START)
        harbor.apply_all([("haul", 0, 14)])
        harbor.save("a")
        harbor.undo()
        self.assertIs(harbor.is_busy(), False)
        harbor.restore("a")
        self.assertIs(harbor.is_busy(), False)

    def test_results_are_a_list_of_their_own(self):
        harbor = Harbor(RING, START)
        results = harbor.apply_all(OPERATIONS)
        results.clear()
        self.assertEqual((hold(harbor), harbor.history()), (STATES[5], OPERATIONS))

    def test_the_list_of_operations_is_not_kept(self):
        harbor = Harbor(RING, START)
        operations = list(OPERATIONS)
        harbor.apply_all(operations)
        operations.clear()
        self.assertEqual(harbor.history(), OPERATIONS)


class ReplayTest(HarborCase):
    def test_examples(self):
        self.assertEqual(replay(RING, START, [("haul", 0, 14)]).distance(), 4)
        self.expect(InvalidOperation, replay, RING, START, [("haul", 0, 14), ("haul", 0, 13)], index=1)

    def test_new_harbor(self):
        for many in range(len(OPERATIONS) + 1):
            operations = OPERATIONS[:many]
            harbor = replay(RING, START, operations)
            self.assertIs(type(harbor), Harbor)
            self.assertEqual((hold(harbor), harbor.history()), (STATES[many], operations))
            self.assertEqual((harbor.checkpoints(), harbor.is_busy(), harbor.redo()), ([], False, False))
            self.assertIs(harbor.undo(), many > 0)
            self.assertEqual(len(operations), many)
        self.assertIsNot(replay(RING, START, []), replay(RING, START, []))

    def test_errors_in_their_order(self):
        self.expect(InvalidFleet, replay, None, None, None, part="fleet", index=0)
        self.expect(InvalidPositions, replay, CLASH, (0, None), None, index=1)
        self.expect(BrokenRope, replay, CLASH, (0, 0), None, index=1)
        for value in (None, 0, "cut", (), tuple(OPERATIONS)):
            self.expect(InvalidOperation, replay, RING, START, value, index=0)
        for item in WRONG_ITEMS:
            self.expect(InvalidOperation, replay, RING, START, [("cut", 9), ("cut", 0), item], index=2)
        self.expect(InvalidOperation, replay, RING, START, [("cut", 0), ("cut", 2), ("cut", 9)], index=1)

    def test_each_error_of_an_operation(self):
        failing = (
            ("haul", 0, 13), ("haul", True, 20), ("tie", (0, 0, 5)), ("tie", (0, 1, 4)), ("cut", 3), ("change", 3, 5),
            ("change", 0, True), ("change", 0, 4), ("reach", None), ("reach", (14, 8, 5)), ("reach", START))
        for operation in failing:
            operations = [("haul", 0, 14), operation, ("cut", 0)]
            self.expect(InvalidOperation, replay, RING, START, operations, index=1)
        operations = [("haul", 0, 9999), ("haul", 0, 9999)]
        self.expect(InvalidOperation, replay, (2, ((0, 1, -50),)), (0, 50), operations, index=1)

    def test_a_41st_rope(self):
        operations = [("tie", (0, 1, 5))] * 41
        self.assertEqual(len(replay((2, ()), (0, 0), operations[:40]).current_fleet()[1]), 40)
        self.expect(InvalidOperation, replay, (2, ()), (0, 0), operations, index=40)

    def test_history_leads_to_the_same_harbor(self):
        harbor = ready()
        again = replay(RING, START, harbor.history())
        self.assertEqual(show_course(again), show_course(harbor))


class SlowHarbor:
    """A harbor that starts anew for each answer."""

    def __init__(self, fleet, positions):
        self.start = (fleet, positions, 0)
        self.done = []
        self.undone = []
        self.saved = {}

    def state(self):
        state = self.start
        for operation in self.done:
            state = self.follow(state, operation)
        return state

    def apply(self, operations):
        before = (self.done, self.undone)
        for operation in operations:
            if self.follow(self.state(), operation) is None:
                self.done, self.undone = before
                return
            self.done = self.done + [operation]
            self.undone = []

    def follow(self, state, operation):
        (count, ropes), positions, total = state
        word, *arguments = operation
        ropes = list(ropes)
        if word == "haul":
            barge, position = arguments
            if not positions[barge] <= position:
                return None
            total += position - positions[barge]
            positions = positions[:barge] + (position,) + positions[barge + 1:]
            return (count, tuple(ropes)), settle((count, ropes), positions), total
        if word == "reach":
            try:
                total += least_distance((count, tuple(ropes)), positions, arguments[0])
            except HaulError:
                return None
            return (count, tuple(ropes)), arguments[0], total
        if word == "tie":
            if len(ropes) == 40:
                return None
            ropes.append(arguments[0])
        elif arguments[0] >= len(ropes):
            return None
        elif word == "cut":
            del ropes[arguments[0]]
        else:
            ropes[arguments[0]] = ropes[arguments[0]][:2] + (arguments[1],)
        if any(positions[front] - positions[rear] > length for front, rear, length in ropes):
            return None
        return (count, tuple(ropes)), positions, total

    def undo(self):
        if self.done:
            self.undone = self.undone + self.done[-1:]
            self.done = self.done[:-1]

    def redo(self):
        if self.undone:
            self.done = self.done + self.undone[-1:]
            self.undone = self.undone[:-1]


def pick_operation(source, harbor):
    """Return an operation that fails now and then."""
    (count, ropes), positions, _ = hold(harbor)
    word = source.choice(("haul", "haul", "tie", "cut", "change", "reach"))
    barge = source.randrange(count)
    if word == "haul":
        return word, barge, positions[barge] + source.randint(-2, 9)
    if word == "tie" and count > 1:
        front, rear = source.sample(range(count), 2)
        return word, (front, rear, positions[front] - positions[rear] + source.randint(-1, 5))
    if word == "change":
        return word, source.randint(0, 4), source.randint(-9, 15)
    if word == "reach":
        ahead = [position + source.randint(0, 5) for position in positions]
        return word, settle((count, ropes), ahead)
    return "cut", source.randint(0, 4)


class RandomTest(ErrorCase):
    def test_against_a_harbor_that_starts_anew(self):
        source = random.Random(14)
        for fleet, positions in calm_fleets(40, most_barges=4):
            harbor = Harbor(fleet, positions)
            slow = SlowHarbor(fleet, positions)
            for _ in range(40):
                self.step(source, harbor, slow)
                self.assertEqual((hold(harbor), harbor.history()), (slow.state(), slow.done))
                self.assertEqual(harbor.checkpoints(), sorted(slow.saved))
            self.assertEqual(show_state(harbor)[:4], show_state(replay(fleet, positions, harbor.history()))[:4])

    def step(self, source, harbor, slow):
        """Do the same to both harbors."""
        choice = source.choice(("one", "one", "some", "undo", "redo", "save", "restore"))
        name = source.choice("abc")
        if choice in ("one", "some"):
            operations = [pick_operation(source, harbor) for _ in range(1 if choice == "one" else 3)]
            slow.apply(operations)
            try:
                harbor.apply_all(operations)
            except HaulError:
                pass
        elif choice == "undo":
            self.assertIs(harbor.undo(), bool(slow.done))
            slow.undo()
        elif choice == "redo":
            self.assertIs(harbor.redo(), bool(slow.undone))
            slow.redo()
        elif choice == "save":
            harbor.save(name)
            slow.saved[name] = (slow.done, slow.undone)
        elif name in slow.saved:
            harbor.restore(name)
            slow.done, slow.undone = slow.saved[name]
        else:
            self.expect(UnknownCheckpoint, harbor.restore, name)


if __name__ == "__main__":
    unittest.main()
