"""Bytes of fleets at positions with hauls."""

from haulropes.checks import FARTHEST, LONGEST, MOST_BARGES, MOST_ROPES, is_number
from haulropes.errors import DecodeError, InvalidCount
from haulropes.hauling import haul_all

FIRST_BYTE = 72
MOST_HAULS = 200
MOST_GROUPS = 3
CHECK_MODULUS = 251


def pack_bytes(values):
    """Return the bytes with the values of a list."""
    if not isinstance(values, list):
        raise InvalidCount("the values are not a list")
    for value in values:
        if not is_number(value, 0, 255):
            raise InvalidCount("a value is not that of a byte")
    return bytes(values)


def unpack_bytes(data):
    """Return the list of the values of bytes."""
    return list(data)


def encode_plan(fleet, positions, hauls):
    """Return the bytes of a fleet, positions and a list of hauls."""
    haul_all(fleet, positions, hauls)
    if len(hauls) > MOST_HAULS:
        raise InvalidCount("there are too many hauls")
    count, ropes = fleet
    values = [FIRST_BYTE, count, len(ropes)]
    for front, rear, length in ropes:
        values.extend([front, rear] + integer_groups(length))
    for position in positions:
        values.extend(integer_groups(position))
    values.extend(natural_groups(len(hauls)))
    last = list(positions)
    for barge, position in hauls:
        values.extend([barge] + integer_groups(position - last[barge]))
        last[barge] = position
    values.append(sum(values) % CHECK_MODULUS)
    return bytes(values)


def decode_plan(data):
    """Return the fleet, the positions and the hauls of bytes."""
    if not isinstance(data, bytes):
        raise DecodeError(0)
    reader = Reader(data)
    reader.read_byte(FIRST_BYTE, FIRST_BYTE)
    count = reader.read_byte(1, MOST_BARGES)
    fleet = (count, read_ropes(reader, count))
    positions = tuple([reader.read_integer(0, FARTHEST) for _ in range(count)])
    hauls = read_hauls(reader, positions)
    reader.read_end()
    haul_all(fleet, positions, hauls)
    return fleet, positions, hauls


def natural_groups(number):
    """Return the bytes of a natural number as a list."""
    groups = []
    while number >= 128:
        groups.append(128 + (number & 127))
        number //= 128
    groups.append(number)
    return groups


def integer_groups(number):
    """Return the bytes of an integer as a list."""
    if number < 0:
        return natural_groups(-2 * number - 1)
    return natural_groups(2 * number)


def read_ropes(reader, count):
    """Return the tuple of the ropes between so many barges."""
    ropes = []
    for _ in range(reader.read_byte(0, MOST_ROPES)):
        front = reader.read_byte(0, count - 1)
        start = reader.offset
        rear = reader.read_byte(0, count - 1)
        if rear == front:
            raise DecodeError(start)
        ropes.append((front, rear, reader.read_integer(0, LONGEST)))
    return tuple(ropes)


def read_hauls(reader, positions):
    """Return the list of the hauls from these positions on."""
    start = reader.offset
    many = reader.read_natural()
    if many > MOST_HAULS:
        raise DecodeError(start)
    last = list(positions)
    hauls = []
    for _ in range(many):
        barge = reader.read_byte(0, len(last) - 1)
        last[barge] = reader.read_integer(last[barge], FARTHEST)
        hauls.append((barge, last[barge]))
    return hauls


class Reader:
    """Bytes, and the offset of the first one that has not been read."""

    def __init__(self, data):
        self.data = data
        self.offset = 0

    def read_byte(self, low, high):
        """Return the next byte, which is from low to high."""
        if self.offset == len(self.data):
            raise DecodeError(self.offset)
        byte = self.data[self.offset]
        if not low <= byte <= high:
            raise DecodeError(self.offset)
        self.offset += 1
        return byte

    def read_natural(self):
        """Return the next natural number."""
        start = self.offset
        number = 0
        for place in range(MOST_GROUPS):
            byte = self.read_byte(0, 127 if place == MOST_GROUPS - 1 else 255)
            number += (byte & 127) << (7 * place)
            if byte == 0 and place > 0:
                raise DecodeError(start)
            if byte < 128:
                break
        return number

    def read_integer(self, base, limit):
        """Return a base plus the next integer; the sum is from -limit to limit."""
        start = self.offset
        code = self.read_natural()
        number = base + code // 2
        if code & 1 == 1:
            number = base - (code + 1) // 2
        if not -limit <= number <= limit:
            raise DecodeError(start)
        return number

    def read_end(self):
        """Read the checksum, which is the last byte."""
        total = sum(self.data[:self.offset]) % CHECK_MODULUS
        self.read_byte(total, total)
        if self.offset < len(self.data):
            raise DecodeError(self.offset)
