"""Logs of hauls, ropes that fit known positions, and the number of valid positions."""

from haulropes.checks import check_fleet, check_positions, check_valid, is_barge, is_number
from haulropes.errors import InvalidLimit, InvalidPositions, InvalidRope
from haulropes.fleets import chain_table, check_table
from haulropes.hauling import is_haul, move_barge

MOST_COUNTED = 5
FARTHEST_COUNTED = 12


def first_error(fleet, positions, log):
    """Return the index of the first wrong entry of a log, or None."""
    check_fleet(fleet)
    check_valid(fleet, positions)
    if not isinstance(log, list):
        return 0
    table = chain_table(fleet)
    current = tuple(positions)
    for index, entry in enumerate(log):
        if not isinstance(entry, tuple) or len(entry) != 2:
            return index
        step, after = entry
        if not is_haul(step, current):
            return index
        current = move_barge(table, current, step[0], step[1])
        if not is_same(after, current):
            return index
    return None


def shortest_ropes(count, pairs, arrangements):
    """Return the shortest ropes between pairs of barges that a list of positions allows."""
    # A fleet without ropes has the barges, and nothing that positions need to satisfy.
    fleet = (count, ())
    check_fleet(fleet)
    if not isinstance(arrangements, list) or len(arrangements) == 0:
        raise InvalidPositions(0)
    for positions in arrangements:
        check_positions(fleet, positions)
    check_pairs(pairs, count)
    return [(front, rear, greatest_lead(arrangements, front, rear)) for front, rear in pairs]


def count_positions(fleet, limit):
    """Return the number of valid positions in which each barge is from 0 to a limit."""
    check_fleet(fleet)
    table = chain_table(fleet)
    check_table(table)
    if fleet[0] > MOST_COUNTED or not is_number(limit, 0, FARTHEST_COUNTED):
        raise InvalidLimit("too many barges, or no limit up to which positions are counted")
    return count_placings(table, limit, ())


def is_same(value, positions):
    """Return whether a value is exactly these positions."""
    if not isinstance(value, tuple) or len(value) != len(positions):
        return False
    for item, position in zip(value, positions):
        if not is_number(item, position, position):
            return False
    return True


def check_pairs(pairs, count):
    """Raise InvalidRope if a value is not a list of pairs of different barges."""
    if not isinstance(pairs, list):
        raise InvalidRope("the pairs are not a list")
    for pair in pairs:
        if not is_pair(pair, count):
            raise InvalidRope("a pair is not two different barges")


def greatest_lead(arrangements, front, rear):
    """Return how far one barge is ahead of another one at the most in a list of positions."""
    return max([positions[front] - positions[rear] for positions in arrangements])


def is_pair(value, count):
    """Return whether a value is a pair of different barges out of so many."""
    if not isinstance(value, tuple) or len(value) != 2:
        return False
    front, rear = value
    return is_barge(front, count) and is_barge(rear, count) and front != rear


def count_placings(table, limit, placed):
    """Return in how many ways the barges behind the placed ones can be placed from 0 to a limit."""
    barge = len(placed)
    low = 0
    high = limit
    for other, position in enumerate(placed):
        if table[other][barge] is not None:
            low = max(low, position - table[other][barge])
        if table[barge][other] is not None:
            high = min(high, position + table[barge][other])
    if barge == len(table) - 1:
        return max(0, high - low + 1)
    return sum([count_placings(table, limit, placed + (position,)) for position in range(low, high + 1)])
