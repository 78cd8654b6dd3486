"""Hauls, the positions after them, and the positions that can be reached."""

from haulropes.checks import FARTHEST, check_fleet, check_valid, check_wishes, is_barge, is_number
from haulropes.errors import InvalidHaul
from haulropes.fleets import chain_table, check_table


def haul(fleet, positions, barge, position):
    """Return the positions after a haul."""
    return haul_all(fleet, positions, [(barge, position)])


def haul_all(fleet, positions, hauls):
    """Return the positions after a list of hauls, one after another."""
    return follow_hauls(fleet, positions, hauls)[0]


def total_distance(fleet, positions, hauls):
    """Return the sum of the distances by which the hauled barges themselves move."""
    return follow_hauls(fleet, positions, hauls)[1]


def dragged_barges(fleet, positions, barge, position):
    """Return the ascending list of the other barges that a haul moves."""
    after = haul(fleet, positions, barge, position)
    return [other for other in range(len(after)) if other != barge and after[other] != positions[other]]


def least_positions(fleet, positions, wishes):
    """Return the least valid positions that are not less than positions and wishes."""
    check_fleet(fleet)
    check_valid(fleet, positions)
    check_wishes(fleet, wishes)
    table = chain_table(fleet)
    least = tuple(positions)
    for barge, wish in enumerate(wishes):
        if wish is not None and wish > least[barge]:
            least = move_barge(table, least, barge, wish)
    return least


def greatest_positions(fleet, limits):
    """Return the greatest position that each barge can have within limits, None without a bound."""
    check_fleet(fleet)
    check_wishes(fleet, limits)
    table = chain_table(fleet)
    check_table(table)
    return tuple([greatest_position(row, limits) for row in table])


def reachable_ranges(fleet, positions, limits):
    """Return the least and greatest positions that hauls can reach within limits, or None."""
    check_fleet(fleet)
    check_valid(fleet, positions)
    check_wishes(fleet, limits)
    for position, limit in zip(positions, limits):
        if limit is not None and position > limit:
            return None
    # Hauls reach all valid positions ahead: hauled one by one, no barge is dragged beyond its own one.
    return list(zip(positions, greatest_positions(fleet, limits)))


def follow_hauls(fleet, positions, hauls):
    """Return the positions after hauls, and the total distance of the hauls."""
    check_fleet(fleet)
    check_valid(fleet, positions)
    if not isinstance(hauls, list):
        raise InvalidHaul(0)
    table = chain_table(fleet)
    current = tuple(positions)
    total = 0
    for index, step in enumerate(hauls):
        if not is_haul(step, current):
            raise InvalidHaul(index)
        barge, position = step
        total += position - current[barge]
        current = move_barge(table, current, barge, position)
    return current, total


def is_haul(value, positions):
    """Return whether a value is a haul that is valid at positions."""
    if not isinstance(value, tuple) or len(value) != 2:
        return False
    barge, position = value
    return is_barge(barge, len(positions)) and is_number(position, positions[barge], FARTHEST)


def move_barge(table, positions, barge, position):
    """Return valid positions after a barge moves forward to a position and drags the others."""
    after = []
    for other, before in enumerate(positions):
        length = table[barge][other]
        if length is None:
            after.append(before)
        else:
            after.append(max(before, position - length))
    return tuple(after)


def greatest_position(lengths, limits):
    """Return the greatest position of a barge with these chains to the others, or None."""
    bounds = []
    for length, limit in zip(lengths, limits):
        if length is not None and limit is not None:
            bounds.append(limit + length)
    return min(bounds, default=None)
