"""Texts of fleets at positions, and of plans."""

from haulropes.checks import FARTHEST, MOST_BARGES, check_fleet, check_valid, is_barge, is_number
from haulropes.errors import InvalidHaul, NotationError
from haulropes.words import read_integer, split_rows


def format_state(fleet, positions):
    """Return the text of a fleet at positions."""
    check_fleet(fleet)
    check_valid(fleet, positions)
    count, ropes = fleet
    rows = [format_row("barges", (count,))]
    for rope in ropes:
        rows.append(format_row("rope", rope))
    rows.append(format_row("at", positions))
    return "\n".join(rows)


def parse_state(text):
    """Return the fleet and the positions of a text."""
    table = split_words(text)
    if len(table) == 0:
        raise NotationError(0, 0)
    count = read_numbers(table, 0, "barges", 1)[0]
    last = 1
    ropes = []
    while last < len(table) and table[last][0] != "at":
        ropes.append(tuple(read_numbers(table, last, "rope", 3)))
        last += 1
    if last == len(table):
        raise NotationError(last, 0)
    positions = tuple(read_numbers(table, last, "at", None))
    if last + 1 < len(table):
        raise NotationError(last + 1, 0)
    fleet = (count, tuple(ropes))
    check_fleet(fleet)
    check_valid(fleet, positions)
    return fleet, positions


def format_plan(hauls):
    """Return the text of a list of hauls."""
    if not isinstance(hauls, list):
        raise InvalidHaul(0)
    for index, step in enumerate(hauls):
        if not is_planned(step):
            raise InvalidHaul(index)
    return "\n".join([format_row("haul", step) for step in hauls])


def parse_plan(text):
    """Return the list of the hauls of a text."""
    table = split_words(text)
    hauls = []
    for row in range(len(table)):
        barge, position = read_numbers(table, row, "haul", 2)
        if not is_barge(barge, MOST_BARGES):
            raise NotationError(row, 1)
        hauls.append((barge, position))
    return hauls


def format_row(word, numbers):
    """Return the row of a word and numbers."""
    return " ".join([word] + [str(number) for number in numbers])


def split_words(text):
    """Return a list with the words of each row of a text."""
    if not isinstance(text, str):
        raise NotationError(0, 0)
    return [row.split(" ") for row in split_rows(text)]


def read_numbers(table, row, word, many):
    """Return the numbers in a row behind its first word, with None for many if any number of them fits."""
    words = table[row]
    if words[0] != word:
        raise NotationError(row, 0)
    numbers = []
    for index in range(1, len(words)):
        number = read_integer(words[index])
        if number is None or len(numbers) == many:
            raise NotationError(row, index)
        numbers.append(number)
    if many is not None and len(numbers) < many:
        raise NotationError(row, len(words))
    return numbers


def is_planned(value):
    """Return whether a value is a haul that a text can contain."""
    if not isinstance(value, tuple) or len(value) != 2:
        return False
    barge, position = value
    return is_barge(barge, MOST_BARGES) and is_number(position, -FARTHEST, FARTHEST)
