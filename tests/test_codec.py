"""Point 18: bytes of fleets at positions with hauls."""

import random
import unittest

from haulropes.codec import decode_plan, encode_plan, pack_bytes, unpack_bytes
from haulropes.errors import (
    BrokenRope, DecodeError, HaulError, InvalidCount, InvalidFleet, InvalidHaul, InvalidPositions)
from haulropes.hauling import haul_all
from support import CLASH, NO_NUMBERS, RING, ErrorCase, calm_fleets

EXAMPLE = [72, 2, 1, 0, 1, 10, 6, 3, 1, 0, 194, 1, 40]
PLAN = ((2, ((0, 1, 5),)), (3, -2), [(0, 100)])


def seal(values):
    """Return the bytes of values and their checksum."""
    return bytes(values + [sum(values) % 251])


def natural(number):
    """Return the values of the bytes of a natural number."""
    values = []
    while True:
        number, low = divmod(number, 128)
        values.append(low if number == 0 else low + 128)
        if number == 0:
            return values


def integer(number):
    """Return the values of the bytes of an integer."""
    return natural(2 * number if number >= 0 else -2 * number - 1)


def write(fleet, positions, hauls):
    """Return the values of the bytes of a plan without their checksum, wherever its numbers lie."""
    values = [72, fleet[0], len(fleet[1])]
    for front, rear, length in fleet[1]:
        values += [front, rear] + integer(length)
    for position in positions:
        values += integer(position)
    values += natural(len(hauls))
    last = dict(enumerate(positions))
    for barge, position in hauls:
        values += [barge] + integer(position - last[barge])
        last[barge] = position
    return values


def random_plans(many):
    """Return fleets at positions with hauls of all lengths."""
    source = random.Random(18)
    plans = [PLAN]
    for fleet, positions in calm_fleets(many, most_barges=8):
        hauls = []
        current = positions
        for _ in range(source.randint(0, 6)):
            barge = source.randrange(fleet[0])
            step = source.choice((0, 1, 31, 32, 63, 64, 65, 500, 1500))
            hauls.append((barge, current[barge] + step))
            current = haul_all(fleet, current, hauls[-1:])
        plans.append((fleet, positions, hauls))
    return plans


class CodecCase(ErrorCase):
    def expect_wrong(self, values, offset):
        """Check that the byte at this offset is invalid, whatever stands behind these values."""
        self.expect(DecodeError, decode_plan, bytes(values), offset=offset)
        if offset < len(values):
            for tail in ([0], [255] * 9, [1, 2, 3]):
                self.expect(DecodeError, decode_plan, bytes(values + tail), offset=offset)
                self.expect(DecodeError, decode_plan, seal(values + tail), offset=offset)

    def expect_plan(self, fleet, positions, hauls):
        """Check that a plan has the bytes that are written here, and is read from them."""
        data = seal(write(fleet, positions, hauls))
        self.assertEqual(encode_plan(fleet, positions, hauls), data)
        self.assertEqual(decode_plan(data), (fleet, positions, hauls))


class PackTest(CodecCase):
    def test_examples(self):
        self.assertEqual(pack_bytes([72, 1]), b"H\x01")
        self.assertEqual(unpack_bytes(pack_bytes([72, 1])), [72, 1])

    def test_there_and_back(self):
        for values in ([], [0], [255], list(range(256)), [0, 0, 255, 255], [7] * 999):
            before = list(values)
            data = pack_bytes(values)
            self.assertIs(type(data), bytes)
            self.assertEqual((data, values), (bytes(before), before))
            unpacked = unpack_bytes(data)
            self.assertIs(type(unpacked), list)
            self.assertEqual(unpacked, values)
            unpacked.append("changed")
            self.assertEqual(unpack_bytes(data), values)

    def test_values_that_are_no_bytes(self):
        for value in NO_NUMBERS + (-1, 256, 1000, -256, "H", b"H", [72]):
            self.expect(InvalidCount, pack_bytes, [value])
            self.expect(InvalidCount, pack_bytes, [72, value, 1])

    def test_no_list(self):
        for values in (None, True, False, 0, 3, 1.5, "", "H", (), (72, 1), b"", b"H", {72: 1}):
            self.expect(InvalidCount, pack_bytes, values)


class EncodeTest(CodecCase):
    def test_example(self):
        self.assertEqual(unpack_bytes(encode_plan((2, ((0, 1, 5),)), (3, -2), [(0, 100)])), EXAMPLE)
        self.assertIs(type(encode_plan(*PLAN)), bytes)

    def test_numbers_of_one_two_and_three_bytes(self):
        def bytes_of(position):
            return list(encode_plan((1, ()), (position,), []))[3:-2]
        codes = {
            0: [0], -1: [1], 1: [2], -2: [3], 63: [126], -64: [127], 64: [128, 1], -65: [129, 1], 127: [254, 1],
            128: [128, 2], 8191: [254, 127], -8192: [255, 127], 8192: [128, 128, 1], -8193: [129, 128, 1],
            9999: [158, 156, 1], -9999: [157, 156, 1]}
        for position, code in codes.items():
            self.assertEqual(bytes_of(position), code)

    def test_fleets_of_all_sizes(self):
        for count in range(1, 9):
            self.expect_plan((count, ()), tuple(range(-3, count - 3)), [(count - 1, 500)])
        self.expect_plan((2, ((1, 0, 99), (0, 1, -99)) * 20), (0, 99), [])
        for many in (1, 2, 39, 40):
            self.expect_plan((8, ((7, 6, many),) * many), (0,) * 8, [])

    def test_edges_of_lengths(self):
        for length in (-99, -65, -64, -63, -1, 0, 1, 63, 64, 65, 99):
            self.expect_plan((2, ((0, 1, length),)), (-100, 0), [])

    def test_hauls_count_from_the_haul_before(self):
        fleet = (2, ((0, 1, 0),))
        hauls = [(0, 7), (0, 9), (1, 9), (1, 12), (0, 12), (0, 12)]
        values = list(encode_plan(fleet, (2, 3), hauls))
        # Barge 1 is dragged to 9, but it was never hauled and lay at 3.
        self.assertEqual(values[8:-1], [6, 0, 10, 0, 4, 1, 12, 1, 6, 0, 6, 0, 0])
        self.expect_plan(fleet, (2, 3), hauls)

    def test_longest_hauls(self):
        self.expect_plan((1, ()), (-9999,), [(0, 9999)])
        self.assertEqual(list(encode_plan((1, ()), (-9999,), [(0, 9999)]))[7:-1], [0, 188, 184, 2])

    def test_checksum(self):
        for position in range(-200, 200):
            data = list(encode_plan((1, ()), (position,), []))
            self.assertEqual(data[-1], sum(data[:-1]) % 251)

    def test_200_and_201_hauls(self):
        for many in (0, 1, 127, 128, 199, 200):
            self.expect_plan((1, ()), (0,), [(0, 5)] * many)
        self.expect(InvalidCount, encode_plan, (1, ()), (0,), [(0, 5)] * 201)
        self.expect(InvalidCount, encode_plan, (1, ()), (0,), [(0, 5)] * 400)

    def test_errors_in_their_order(self):
        self.expect(InvalidFleet, encode_plan, None, None, None, part="fleet", index=0)
        self.expect(InvalidFleet, encode_plan, (2, ((0, 1, 5), None)), None, None, part="ropes", index=1)
        self.expect(InvalidPositions, encode_plan, CLASH, (0,), None, index=1)
        self.expect(BrokenRope, encode_plan, RING, (6, 0, 0), None, index=0)
        for hauls in (None, True, 0, "", (), ((0, 8),)):
            self.expect(InvalidHaul, encode_plan, RING, (0, 0, 0), hauls, index=0)
        for step in NO_NUMBERS + ((3, 8), (0, 7), (0, 10000), [0, 9], (True, 9)):
            self.expect(InvalidHaul, encode_plan, RING, (0, 0, 0), [(0, 8), step], index=1)
        self.expect(InvalidHaul, encode_plan, RING, (0, 0, 0), [(0, 8)] * 200 + [(0, 7)], index=200)
        self.expect(InvalidHaul, encode_plan, RING, (0, 0, 0), [(0, 8)] * 201 + [(0, 7)], index=201)

    def test_arguments_stay_as_they_are(self):
        hauls = [(0, 8), (2, 6)]
        encode_plan(RING, (0, 0, 0), hauls)
        self.assertEqual(hauls, [(0, 8), (2, 6)])


class DecodeTest(CodecCase):
    def test_examples(self):
        self.assertEqual(decode_plan(pack_bytes(EXAMPLE)), PLAN)
        self.expect(DecodeError, decode_plan, pack_bytes([72, 9]), offset=1)

    def test_there_and_back(self):
        for fleet, positions, hauls in random_plans(150):
            self.expect_plan(fleet, positions, hauls)

    def test_kinds_of_values(self):
        data = pack_bytes(EXAMPLE)
        fleet, positions, hauls = decode_plan(data)
        kinds = [type(value) for value in (fleet, fleet[1], fleet[1][0], positions, hauls, hauls[0])]
        self.assertEqual(kinds, [tuple, tuple, tuple, tuple, list, tuple])
        hauls.append("changed")
        self.assertEqual(decode_plan(data), PLAN)

    def test_first_byte(self):
        for byte in (0, 71, 73, 200, 255):
            self.expect_wrong([byte] + EXAMPLE[1:], 0)
        self.expect_wrong([], 0)

    def test_number_of_barges(self):
        for byte in (0, 9, 10, 72, 127, 128, 129, 136, 255):
            self.expect_wrong([72, byte], 1)
            self.expect_wrong([72, byte] + EXAMPLE[2:], 1)

    def test_number_of_ropes(self):
        for byte in (41, 100, 127, 128, 168, 255):
            self.expect_wrong([72, 2, byte], 2)
        self.expect_wrong([72, 2, 40], 3)
        self.expect_wrong([72, 2, 40] + [0, 1, 10] * 40, 123)

    def test_barges_of_ropes(self):
        for byte in (2, 7, 8, 128, 129, 255):
            self.expect_wrong([72, 2, 1, byte, 1, 10], 3)
            self.expect_wrong([72, 2, 1, 0, byte, 10], 4)
            self.expect_wrong([72, 2, 2, 0, 1, 10, byte, 1, 10], 6)
            self.expect_wrong([72, 2, 2, 0, 1, 10, 1, byte, 10], 7)
        for barge in range(8):
            self.expect_wrong([72, 8, 1, barge, barge, 10], 4)
        self.expect_wrong([72, 1, 1, 0, 0, 10], 4)
        self.expect_wrong([72, 1, 1, 0, 1, 10], 4)
        self.expect_wrong([72, 1, 1, 1, 0, 10], 3)

    def test_lengths(self):
        for length in (100, -100, 101, 5000, -5000, 9999, 1000000, -1000000):
            self.expect_wrong([72, 2, 1, 0, 1] + integer(length), 5)
            self.expect_wrong([72, 2, 2, 1, 0] + integer(99) + [0, 1] + integer(length), 9)
        for length in (99, -99):
            values = [72, 2, 1, 0, 1] + integer(length)
            self.expect_wrong(values, len(values))

    def test_positions(self):
        for position in (10000, -10000, 16384, 1048575, -1048576):
            self.expect_wrong([72, 2, 0] + integer(position), 3)
            self.expect_wrong([72, 2, 0] + integer(-9999) + integer(position), 6)
        for position in (9999, -9999):
            self.assertEqual(decode_plan(seal([72, 1, 0] + integer(position) + [0])), ((1, ()), (position,), []))

    def test_number_of_hauls(self):
        for many in (201, 202, 255, 256, 16383, 16384, 2097151):
            self.expect_wrong([72, 1, 0, 0] + natural(many), 4)
        values = [72, 1, 0, 0] + natural(200)
        self.expect_wrong(values, 6)
        self.assertEqual(decode_plan(seal(values + [0, 0] * 200)), ((1, ()), (0,), [(0, 0)] * 200))

    def test_barges_of_hauls(self):
        for byte in (2, 8, 128, 255):
            self.expect_wrong([72, 2, 0, 0, 0, 1, byte, 0], 6)
            self.expect_wrong([72, 2, 0, 0, 0, 2, 1, 128, 1, byte, 0], 9)

    def test_positions_of_hauls(self):
        start = [72, 2, 0] + integer(9000) + integer(-9000)
        for step in (1000, 1001, -19000, 1048575, -1048576):
            self.expect_wrong(start + [1, 0] + integer(step), 11)
        for step in (-1000, -1001, 19000):
            self.expect_wrong(start + [1, 1] + integer(step), 11)
        self.expect_wrong(start + [3, 0] + integer(999) + [1] + integer(0) + [0] + integer(1), 16)
        self.expect_wrong(start + [3, 0] + integer(999) + [1] + integer(18999) + [1] + integer(1), 18)
        hauls = [(0, 9999), (1, 9999), (0, 9999)]
        self.expect_plan((2, ()), (9000, -9000), hauls)
        self.expect(InvalidHaul, decode_plan, seal(start + [1, 1] + integer(-999)), index=0)

    def test_redundant_groups(self):
        for code in ([128, 0], [129, 0], [255, 0], [128, 128, 0], [129, 129, 0], [255, 128, 0], [128, 255, 0]):
            self.expect_wrong([72, 2, 1, 0, 1] + code, 5)
            self.expect_wrong([72, 2, 0] + code, 3)
            self.expect_wrong([72, 2, 0, 0] + code, 4)
            self.expect_wrong([72, 2, 0, 0, 0] + code, 5)
            self.expect_wrong([72, 2, 0, 0, 0, 1, 1] + code, 7)

    def test_third_bytes(self):
        for code in ([128, 128, 128], [255, 255, 255], [129, 200, 129], [128, 128, 128, 0]):
            self.expect_wrong([72, 2, 1, 0, 1] + code, 7)
            self.expect_wrong([72, 2, 0] + code, 5)
            self.expect_wrong([72, 2, 0, 0] + code, 6)
            self.expect_wrong([72, 2, 0, 0, 0] + code, 7)
            self.expect_wrong([72, 2, 0, 0, 0, 1, 1] + code, 9)
        self.expect_wrong([72, 2, 0, 255, 255, 127], 3)

    def test_checksum(self):
        for byte in range(256):
            if byte != 40:
                self.expect_wrong(EXAMPLE[:-1] + [byte], 12)
        # The sum of these bytes is 251.
        values = [72, 1, 0] + integer(-89) + [0]
        self.assertEqual(sum(values), 251)
        self.assertEqual(decode_plan(bytes(values + [0])), ((1, ()), (-89,), []))
        self.expect_wrong(values + [251], 6)

    def test_bytes_behind_the_checksum(self):
        for tail in ([0], [40], [80], [255], [0, 0], EXAMPLE):
            self.expect(DecodeError, decode_plan, bytes(EXAMPLE + tail), offset=13)
        self.expect(DecodeError, decode_plan, bytes(EXAMPLE[:-1] + [41, 0]), offset=12)

    def test_data_cut_off_at_every_length(self):
        plans = random_plans(30) + [((1, ()), (-9999,), [(0, 9999)] * 200)]
        for fleet, positions, hauls in plans:
            data = encode_plan(fleet, positions, hauls)
            for many in range(len(data)):
                self.expect(DecodeError, decode_plan, data[:many], offset=many)

    def test_errors_of_hauls_come_later(self):
        ring = (RING, (6, 0, 0), [])
        self.expect(BrokenRope, decode_plan, seal(write(*ring)), index=0)
        self.expect(BrokenRope, decode_plan, seal(write(CLASH, (0, 0), [(0, -1)])), index=1)
        self.expect_wrong(write(*ring) + [0], len(write(*ring)))
        self.expect_wrong(write(CLASH, (0, 0), [(0, -1), (0, -10000)]), 15)
        for hauls, index in (
                ([(0, -1)], 0), ([(0, 8), (0, 7)], 1), ([(0, 8), (1, 2)], 1), ([(0, 8), (1, 3), (2, 0), (2, -1)], 3)):
            self.expect(InvalidHaul, decode_plan, seal(write(RING, (0, 0, 0), hauls)), index=index)

    def test_positions_beyond_9999(self):
        self.expect_plan((2, ((0, 1, -50),)), (0, 50), [(0, 9960)])
        values = write((2, ((0, 1, -50),)), (0, 50), [(0, 9960), (1, 9999)])
        self.expect(InvalidHaul, decode_plan, seal(values), index=1)

    def test_values_that_are_no_bytes(self):
        for data in (None, True, 0, 1.5, "", "H", (), EXAMPLE, tuple(EXAMPLE)):
            self.expect(DecodeError, decode_plan, data, offset=0)

    def test_each_plan_has_one_form(self):
        # Whatever is changed in the bytes, they are either wrong or just what is encoded.
        source = random.Random(19)
        plans = random_plans(60)
        found = 0
        for _ in range(3000):
            values = write(*source.choice(plans))
            at = source.randrange(len(values))
            values[at:at + source.randint(0, 2)] = source.choice(
                ([], [source.randrange(256)], [source.randrange(256), source.randrange(4)], [0], [128]))
            try:
                plan = decode_plan(seal(values))
            except HaulError:
                continue
            found += 1
            self.assertEqual(encode_plan(*plan), seal(values))
        self.assertGreater(found, 300)


if __name__ == "__main__":
    unittest.main()
