"""Checks of the arguments that several parts of the package take."""

from haulropes.errors import (
    BrokenRope, InvalidCrew, InvalidFleet, InvalidGoal, InvalidPositions, InvalidRope, InvalidWishes)

MOST_BARGES = 8
MOST_ROPES = 40
LONGEST = 99
FARTHEST = 9999


def is_number(value, low, high):
    """Return whether a value is an integer from low to high."""
    # Python counts True and False as integers, the package does not.
    if not isinstance(value, int) or isinstance(value, bool):
        return False
    return low <= value <= high


def is_barge(value, count):
    """Return whether a value is one of so many barges."""
    return is_number(value, 0, count - 1)


def is_rope(value, count):
    """Return whether a value is a rope between two of so many barges."""
    if not isinstance(value, tuple) or len(value) != 3:
        return False
    front, rear, length = value
    if not is_barge(front, count) or not is_barge(rear, count):
        return False
    return front != rear and is_number(length, -LONGEST, LONGEST)


def check_fleet(fleet):
    """Raise InvalidFleet if a value is not a fleet."""
    if not isinstance(fleet, tuple) or len(fleet) != 2:
        raise InvalidFleet("fleet", 0)
    count, ropes = fleet
    if not is_number(count, 1, MOST_BARGES):
        raise InvalidFleet("count", 0)
    if not isinstance(ropes, tuple):
        raise InvalidFleet("ropes", 0)
    for index, rope in enumerate(ropes):
        if index == MOST_ROPES or not is_rope(rope, count):
            raise InvalidFleet("ropes", index)


def check_rope(fleet, rope):
    """Raise InvalidRope if a value is not a rope between barges of a fleet."""
    if not is_rope(rope, fleet[0]):
        raise InvalidRope("a rope ties two different barges of the fleet")


def first_wrong_entry(entries, count, blank):
    """Return the index of the first entry that is invalid, missing or superfluous, or None.

    An entry is a position, or also None if blank is True.
    """
    if not isinstance(entries, tuple):
        return 0
    for index, entry in enumerate(entries[:count]):
        if blank and entry is None:
            continue
        if not is_number(entry, -FARTHEST, FARTHEST):
            return index
    if len(entries) != count:
        return min(len(entries), count)
    return None


def check_positions(fleet, positions):
    """Raise InvalidPositions if a value is not positions of a fleet."""
    index = first_wrong_entry(positions, fleet[0], False)
    if index is not None:
        raise InvalidPositions(index)


def unsatisfied_ropes(fleet, positions):
    """Return the ascending list of the ropes that positions do not satisfy."""
    found = []
    for index, (front, rear, length) in enumerate(fleet[1]):
        if positions[front] - positions[rear] > length:
            found.append(index)
    return found


def check_valid(fleet, positions):
    """Raise InvalidPositions or BrokenRope if a value is not valid positions of a fleet."""
    check_positions(fleet, positions)
    broken = unsatisfied_ropes(fleet, positions)
    if len(broken) > 0:
        raise BrokenRope(broken[0])


def check_wishes(fleet, wishes):
    """Raise InvalidWishes if a value is not wishes or limits for a fleet."""
    index = first_wrong_entry(wishes, fleet[0], True)
    if index is not None:
        raise InvalidWishes(index)


def check_way(fleet, positions, goal):
    """Raise an error if the values are not a fleet, valid positions of it and a goal for them."""
    check_fleet(fleet)
    check_valid(fleet, positions)
    check_valid(fleet, goal)
    for barge, position in enumerate(positions):
        if goal[barge] < position:
            raise InvalidGoal(barge)


def check_crew(fleet, crew):
    """Raise InvalidCrew if a value is neither None nor an ascending tuple of barges of a fleet."""
    if crew is None:
        return
    if not isinstance(crew, tuple):
        raise InvalidCrew(0)
    least = 0
    for index, barge in enumerate(crew):
        if not is_number(barge, least, fleet[0] - 1):
            raise InvalidCrew(index)
        least = barge + 1
