"""Implied and redundant ropes, and the comparison of fleets."""

from haulropes.checks import check_fleet, check_rope
from haulropes.errors import InvalidFleet
from haulropes.fleets import chain_table, check_table
from haulropes.hauling import move_barge


def implied(fleet, rope):
    """Return whether all valid positions of a fleet satisfy a rope."""
    check_fleet(fleet)
    check_rope(fleet, rope)
    table = chain_table(fleet)
    check_table(table)
    return is_implied(table, rope)


def counterexample(fleet, rope):
    """Return valid positions of a fleet that do not satisfy a rope, or None."""
    check_fleet(fleet)
    check_rope(fleet, rope)
    table = chain_table(fleet)
    check_table(table)
    if is_implied(table, rope):
        return None
    front, rear, length = rope
    positions = rearmost_positions(table)
    # The rear barge stays, or it is dragged along a chain that is longer than the rope.
    target = max(positions[front], positions[rear] + length + 1)
    return move_barge(table, positions, front, target)


def redundant_ropes(fleet):
    """Return the ascending list of the ropes that all other ropes of a fleet imply."""
    check_fleet(fleet)
    check_table(chain_table(fleet))
    return [index for index in range(len(fleet[1])) if is_redundant(fleet, index)]


def reduce_ropes(fleet):
    """Return a fleet without the ropes that the others imply, tried from the last one to the first one."""
    check_fleet(fleet)
    check_table(chain_table(fleet))
    reduced = fleet
    for index in reversed(range(len(fleet[1]))):
        if is_redundant(reduced, index):
            reduced = without_rope(reduced, index)
    return reduced


def missing_rope(fleet, other):
    """Return the index of the first rope of another fleet that a fleet does not imply, or None."""
    check_fleet(fleet)
    check_fleet(other)
    if fleet[0] != other[0]:
        raise InvalidFleet("count", 1)
    table = chain_table(fleet)
    check_table(table)
    for index, rope in enumerate(other[1]):
        if not is_implied(table, rope):
            return index
    return None


def is_implied(table, rope):
    """Return whether the table of a fleet's chains has one that is at most as long as a rope."""
    front, rear, length = rope
    return table[front][rear] is not None and table[front][rear] <= length


def is_redundant(fleet, index):
    """Return whether all other ropes of a fleet imply the rope with an index."""
    return is_implied(chain_table(without_rope(fleet, index)), fleet[1][index])


def without_rope(fleet, index):
    """Return a fleet without the rope with an index."""
    count, ropes = fleet
    return count, ropes[:index] + ropes[index + 1:]


def rearmost_positions(table):
    """Return the least valid positions that are not less than 0."""
    positions = (0,) * len(table)
    for barge in range(len(table)):
        positions = move_barge(table, positions, barge, 0)
    return positions
