"""A harbor: a fleet at positions, operations on it, undo and checkpoints."""

from haulropes.checks import LONGEST, check_fleet, check_positions, check_rope, check_valid, is_number
from haulropes.distances import least_distance
from haulropes.errors import HaulError, InvalidName, InvalidOperation, InvalidRope, UnknownCheckpoint, UnknownRope
from haulropes.hauling import haul
from haulropes.ropes import without_rope
from haulropes.words import is_name

# The words of the operations, each with the number of its arguments.
ARGUMENTS = {"haul": 2, "tie": 1, "cut": 1, "change": 2, "reach": 1}


class Harbor:
    """A fleet at positions, and the total distance of the hauls."""

    def __init__(self, fleet, positions):
        check_fleet(fleet)
        check_valid(fleet, positions)
        # A moment is (fleet, positions, total distance). Behind the first one, there is one after each
        # operation. The operations that are undone stand behind those in effect.
        self._moments = ((fleet, positions, 0),)
        self._operations = ()
        self._in_effect = 0
        self._saved = {}
        self._busy = False

    def haul_barge(self, barge, position):
        """Haul a barge to a position and return the positions."""
        fleet, positions, total = self._now()
        after = haul(fleet, positions, barge, position)
        self._advance(("haul", barge, position), fleet, after, total + position - positions[barge])
        return after

    def tie_rope(self, rope):
        """Add a rope at the end and return its index."""
        fleet, positions, total = self._now()
        check_rope(fleet, rope)
        check_positions(fleet, positions)
        count, ropes = fleet
        changed = (count, ropes + (rope,))
        check_fleet(changed)
        check_valid(changed, positions)
        self._advance(("tie", rope), changed, positions, total)
        return len(ropes)

    def cut_rope(self, index):
        """Remove the rope with an index and return it."""
        fleet, positions, total = self._now()
        check_index(fleet, index)
        check_positions(fleet, positions)
        self._advance(("cut", index), without_rope(fleet, index), positions, total)
        return fleet[1][index]

    def change_length(self, index, length):
        """Change the length of the rope with an index and return its former length."""
        fleet, positions, total = self._now()
        check_index(fleet, index)
        if not is_number(length, -LONGEST, LONGEST):
            raise InvalidRope("a rope does not have such a length")
        changed = with_length(fleet, index, length)
        check_valid(changed, positions)
        self._advance(("change", index, length), changed, positions, total)
        return fleet[1][index][2]

    def reach(self, goal):
        """Haul to a goal with the least total distance and return it."""
        fleet, positions, total = self._now()
        way = least_distance(fleet, positions, goal)
        self._advance(("reach", goal), fleet, goal, total + way)
        return way

    def current_fleet(self):
        """Return the fleet."""
        return self._now()[0]

    def current_positions(self):
        """Return the positions."""
        return self._now()[1]

    def distance(self):
        """Return the total distance of the hauls in effect."""
        return self._now()[2]

    def undo(self):
        """Undo the last operation in effect and return whether there was one."""
        if self._in_effect == 0:
            return False
        self._in_effect -= 1
        return True

    def redo(self):
        """Execute the operation that was undone last once more and return whether there was one."""
        if self._in_effect == len(self._operations):
            return False
        # All that the operation depends on is as it was, so it leads to the same moment.
        self._in_effect += 1
        return True

    def history(self):
        """Return the list of the operations in effect."""
        return list(self._operations[:self._in_effect])

    def save(self, name):
        """Save everything but the checkpoints under a name."""
        if not is_name(name):
            raise InvalidName("a name has one to eight letters a to z")
        self._saved[name] = self._state()

    def restore(self, name):
        """Restore what was saved under a name."""
        if not is_name(name) or name not in self._saved:
            raise UnknownCheckpoint("nothing is saved under this name")
        self._resume(self._saved[name])

    def checkpoints(self):
        """Return the ascending list of the names under which something is saved."""
        return sorted(self._saved)

    def apply_all(self, operations):
        """Execute all operations, or none if one of them fails, and return the list of their results."""
        check_operations(operations)
        before = self._state()
        results = []
        self._busy = True
        try:
            for operation in operations:
                results.append(self._execute(operation))
        except HaulError:
            self._resume(before)
            raise
        finally:
            self._busy = False
        return results

    def is_busy(self):
        """Return whether apply_all is running."""
        return self._busy

    def _now(self):
        """Return the fleet, the positions and the total distance."""
        return self._moments[self._in_effect]

    def _advance(self, operation, fleet, positions, total):
        """Put an operation and the moment after it behind those in effect, in place of what is undone."""
        moments = self._moments[:self._in_effect + 1]
        operations = self._operations[:self._in_effect]
        self._moments = moments + ((fleet, positions, total),)
        self._operations = operations + (operation,)
        self._in_effect += 1

    def _state(self):
        """Return everything that is saved."""
        return self._moments, self._operations, self._in_effect

    def _resume(self, state):
        """Go back to what was saved."""
        self._moments, self._operations, self._in_effect = state

    def _execute(self, operation):
        """Execute an operation that has been checked and return its result."""
        word, *arguments = operation
        if word == "haul":
            return self.haul_barge(*arguments)
        if word == "tie":
            return self.tie_rope(*arguments)
        if word == "cut":
            return self.cut_rope(*arguments)
        if word == "change":
            return self.change_length(*arguments)
        return self.reach(*arguments)


def replay(fleet, positions, operations):
    """Return a new harbor after a list of operations."""
    harbor = Harbor(fleet, positions)
    check_operations(operations)
    for index, operation in enumerate(operations):
        try:
            harbor.apply_all([operation])
        except HaulError:
            raise InvalidOperation(index)
    return harbor


def check_index(fleet, index):
    """Raise UnknownRope if a fleet has no rope with an index."""
    if not is_number(index, 0, len(fleet[1]) - 1):
        raise UnknownRope("the fleet has no rope with this index")


def with_length(fleet, index, length):
    """Return a fleet in which the rope with an index has another length."""
    count, ropes = fleet
    front, rear, _ = ropes[index]
    return count, ropes[:index] + ((front, rear, length),) + ropes[index + 1:]


def check_operations(operations):
    """Raise InvalidOperation if a value is not a list of operations."""
    if not isinstance(operations, list):
        raise InvalidOperation(0)
    for index, operation in enumerate(operations):
        if not is_operation(operation):
            raise InvalidOperation(index)


def is_operation(value):
    """Return whether a value is a tuple of a word and the right number of arguments."""
    if not isinstance(value, tuple) or len(value) == 0:
        return False
    word = value[0]
    return isinstance(word, str) and word in ARGUMENTS and len(value) == 1 + ARGUMENTS[word]
