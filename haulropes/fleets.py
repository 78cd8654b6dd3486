"""Fleets at positions: broken and taut ropes, chains and circles."""

from haulropes.checks import check_fleet, check_positions, check_valid, is_barge, is_number, unsatisfied_ropes
from haulropes.errors import Contradictory, InvalidBarge


def broken_ropes(fleet, positions):
    """Return the ascending list of the ropes that positions do not satisfy."""
    check_fleet(fleet)
    check_positions(fleet, positions)
    return unsatisfied_ropes(fleet, positions)


def taut_ropes(fleet, positions):
    """Return the ascending list of the ropes that are taut at positions."""
    check_fleet(fleet)
    check_valid(fleet, positions)
    found = []
    for index, (front, rear, length) in enumerate(fleet[1]):
        if positions[front] - positions[rear] == length:
            found.append(index)
    return found


def chain_length(fleet, front, rear):
    """Return the least length of a chain from one barge to another, or None."""
    check_fleet(fleet)
    if not is_barge(front, fleet[0]) or not is_barge(rear, fleet[0]):
        raise InvalidBarge("a chain leads from a barge to a barge")
    table = chain_table(fleet)
    check_table(table)
    return table[front][rear]


def find_circle(fleet):
    """Return the list of the ropes of a circle of negative length, or None."""
    check_fleet(fleet)
    count, ropes = fleet
    least = [0] * count
    last_ropes = [None] * count
    changed = None
    # Without a circle of negative length, the last of these rounds changes nothing.
    for _ in range(count):
        changed = None
        for index, (front, rear, length) in enumerate(ropes):
            if least[front] + length < least[rear]:
                least[rear] = least[front] + length
                last_ropes[rear] = index
                changed = rear
    if changed is None:
        return None
    return trace_circle(ropes, last_ropes, changed)


def is_circle(fleet, circle):
    """Return whether a value is a list of ropes that forms a circle of negative length."""
    check_fleet(fleet)
    ropes = fleet[1]
    if not isinstance(circle, list) or len(circle) == 0:
        return False
    for index in circle:
        if not is_number(index, 0, len(ropes) - 1):
            return False
    total = 0
    end = ropes[circle[-1]][1]
    for index in circle:
        front, rear, length = ropes[index]
        if front != end:
            return False
        end = rear
        total += length
    return total < 0


def trace_circle(ropes, last_ropes, barge):
    """Return the ropes of the circle to which the last ropes lead back from a barge."""
    # The way back may begin outside of the circle, but not by more steps than there are barges.
    for _ in range(len(last_ropes)):
        barge = ropes[last_ropes[barge]][0]
    circle = [last_ropes[barge]]
    at = ropes[circle[0]][0]
    while at != barge:
        circle.append(last_ropes[at])
        at = ropes[last_ropes[at]][0]
    circle.reverse()
    return circle


def chain_table(fleet):
    """Return the least lengths of chains as a list of lists, with None where there is no chain.

    For a contradictory fleet, check_table tells this from the table, and its lengths mean nothing.
    """
    count, ropes = fleet
    table = [[None] * count for _ in range(count)]
    for barge in range(count):
        table[barge][barge] = 0
    for front, rear, length in ropes:
        keep_less(table, front, rear, length)
    for middle in range(count):
        for front in range(count):
            for rear in range(count):
                if table[front][middle] is not None and table[middle][rear] is not None:
                    keep_less(table, front, rear, table[front][middle] + table[middle][rear])
    return table


def keep_less(table, front, rear, length):
    """Write a length into the table if it is less than what stands there."""
    if table[front][rear] is None or length < table[front][rear]:
        table[front][rear] = length


def check_table(table):
    """Raise Contradictory if the table of a fleet's chains shows a circle of negative length."""
    for barge in range(len(table)):
        if table[barge][barge] < 0:
            raise Contradictory("a circle of ropes has a negative length")
