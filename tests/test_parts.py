"""The words by themselves: transforming, levels, bits, smoothing."""

import unittest

from greyreel.bits import number_bits, number_length, packed, signed_bits, signed_length, unpacked, BitReader
from greyreel.grid import Picture, turned
from greyreel.levels import ORDER, level_of, levels_of, values_of
from greyreel.smoothing import smoothed
from greyreel.transform import backward, forward
from tests.helper import noise, num, pack, signed, wild
from tests.test_by_the_words import Words, diagonals, transform, transform_back


def rows(block):
    return [block[k:k + 8] for k in range(0, 64, 8)]


def flat(lines):
    return [number for line in lines for number in line]


class Transforming(unittest.TestCase):

    def test_zeros(self):
        self.assertEqual(forward([0] * 64), [0] * 64)
        self.assertEqual(backward([0] * 64), [0] * 64)

    def test_what_is_even_has_one_number(self):
        for number in (-255, -1, 1, 100, 255):
            self.assertEqual(forward([number] * 64), [number] + [0] * 63)
            self.assertEqual(backward([number] + [0] * 63), [number] * 64)

    def test_by_the_words(self):
        for seed in range(40):
            block = wild(seed) if seed % 2 else [k - 128 for k in noise(64, seed)]
            self.assertEqual(forward(block), flat(transform(rows(block))))
            self.assertEqual(backward(block), flat(transform_back(rows(block))))

    def test_there_and_back(self):
        for seed in range(40):
            block = wild(seed)
            self.assertEqual(backward(forward(block)), block)
            self.assertEqual(forward(backward(block)), block)

    def test_columns_come_before_rows(self):
        # By rows first the rounding would be another for some of these.
        differ = 0
        for seed in range(20):
            block = [k - 128 for k in noise(64, seed)]
            other = turned(forward(turned(block, 8)), 8)
            differ += forward(block) != other
            self.assertEqual(forward(block), flat(transform(rows(block))))
        self.assertGreater(differ, 0)

    def test_what_is_handed_in_stays(self):
        block = wild(3)
        kept = list(block)
        forward(block)
        backward(block)
        self.assertEqual(block, kept)


class Levels(unittest.TestCase):

    def test_the_order(self):
        self.assertEqual([divmod(place, 8) for place in ORDER], diagonals())
        self.assertEqual([divmod(place, 8) for place in ORDER[:7]],
                         [(0, 0), (0, 1), (1, 0), (2, 0), (1, 1), (0, 2), (0, 3)])
        self.assertEqual(sorted(ORDER), list(range(64)))

    def test_rounding(self):
        self.assertEqual([level_of(8, c) for c in (0, 3, 4, 11, 12, -3, -4, -11, -12)], [0, 0, 1, 1, 2, 0, -1, -1, -2])
        self.assertEqual([level_of(5, c) for c in (2, 3, 7, 8, -2, -3)], [0, 1, 1, 2, 0, -1])
        self.assertEqual([level_of(1, c) for c in (-7, 0, 7)], [-7, 0, 7])

    def test_at_most(self):
        for q in range(1, 65):
            self.assertEqual(level_of(q, 32767), min((32767 + q // 2) // q, 32767 // q))
            self.assertLessEqual(level_of(q, 32767) * q, 32767)
            self.assertEqual(level_of(q, -32768), -level_of(q, 32767))

    def test_back(self):
        block = wild(9)
        self.assertEqual(values_of(1, levels_of(1, [max(-32767, c) for c in block])), [max(-32767, c) for c in block])
        self.assertEqual(values_of(7, [0, 0, 3, -2] + [0] * 60), [0] * 8 + [21] + [0] * 7 + [-14] + [0] * 47)


class Bits(unittest.TestCase):

    def test_numbers(self):
        for n, text in ((0, "1"), (1, "010"), (2, "011"), (3, "00100"), (6, "00111"), (7, "0001000")):
            self.assertEqual("".join(str(bit) for bit in number_bits(n)), text)
        for n in range(2000):
            self.assertEqual("".join(str(bit) for bit in number_bits(n)), num(n))
            self.assertEqual(number_length(n), len(num(n)))

    def test_numbers_with_sign(self):
        for z, text in ((0, "1"), (1, "010"), (-1, "011"), (2, "00100"), (-2, "00101"), (3, "00110"), (-3, "00111")):
            self.assertEqual("".join(str(bit) for bit in signed_bits(z)), text)
        for z in range(-40, 41):
            self.assertEqual(signed_length(z), len(signed(z)))
            self.assertEqual(BitReader(pack(signed(z))).take_signed(), z)

    def test_bytes(self):
        self.assertEqual(packed([]), [])
        self.assertEqual(packed([1]), [128])
        self.assertEqual(packed([0] * 7 + [1, 1]), [1, 128])
        self.assertEqual(unpacked([1, 128]), [0] * 7 + [1, 1] + [0] * 7)


class Smoothing(unittest.TestCase):

    def across(self, q, *points):
        """The four points about the edge of a picture whose rows are all alike."""
        p1, p0, q0, q1 = points
        row = [p1] * 7 + [p0, q0] + [q1] * 7
        told = smoothed(Picture(16, 16, row * 16), q).points
        self.assertEqual(told, told[:16] * 16)
        self.assertEqual(told[:7] + told[9:16], [p1] * 7 + [q1] * 7)
        turned_told = smoothed(Picture(16, 16, turned(row * 16, 16)), q).points
        self.assertEqual(turned_told, turned(told, 16))
        return told[7:9]

    def test_by_hand(self):
        # (4 * 5 - 5 + 4) / 8 is 2, and -11 / 8, down, is -2.
        self.assertEqual(self.across(5, 128, 128, 133, 133), [130, 131])
        self.assertEqual(self.across(5, 133, 133, 128, 128), [131, 130])
        self.assertEqual(self.across(64, 128, 128, 133, 133), [130, 131])

    def test_held_by_the_step(self):
        # (4 * 11 - 11 + 4) / 8 is 4.
        for q, shift in ((1, 0), (2, 0), (3, 1), (4, 1), (5, 2), (6, 2), (7, 3), (8, 3), (9, 4), (11, 4)):
            self.assertEqual(self.across(q, 50, 50, 61, 61), [50 + shift, 61 - shift] if 11 < 4 * q else [50, 61], q)
            self.assertEqual(self.across(q, 61, 61, 50, 50)[1] - 50, min(4, shift) if 11 < 4 * q else 0, q)

    def test_edges_that_are_too_sharp(self):
        self.assertNotEqual(self.across(5, 100, 100, 119, 119), [100, 119])
        self.assertEqual(self.across(5, 100, 100, 120, 120), [100, 120])
        self.assertNotEqual(self.across(5, 119, 119, 100, 100), [119, 100])
        self.assertEqual(self.across(5, 120, 120, 100, 100), [120, 100])

    def test_neighbours_that_differ_too_much(self):
        self.assertNotEqual(self.across(5, 91, 100, 110, 110), [100, 110])
        self.assertEqual(self.across(5, 90, 100, 110, 110), [100, 110])
        self.assertEqual(self.across(5, 110, 100, 110, 110), [100, 110])
        self.assertNotEqual(self.across(5, 100, 100, 110, 119), [100, 110])
        self.assertEqual(self.across(5, 100, 100, 110, 120), [100, 110])
        self.assertEqual(self.across(5, 100, 100, 110, 100), [100, 110])

    def test_held_between_0_and_255(self):
        # (0 + 60 + 4) / 8 is 8.
        self.assertEqual(self.across(64, 100, 0, 0, 40), [8, 0])
        self.assertEqual(self.across(64, 255, 255, 255, 195), [255, 247])

    def test_columns_come_before_rows(self):
        points = [100 + k // 4 for k in noise(32 * 32, 6)]
        words = Words(32, 32, 9)
        words.shown = {(k % 32, k // 32): point for k, point in enumerate(points)}
        words.smooth()
        told = smoothed(Picture(32, 32, points), 9).points
        self.assertEqual(told, [words.shown[k % 32, k // 32] for k in range(1024)])
        rows_first = turned(smoothed(Picture(32, 32, turned(points, 32)), 9).points, 32)
        self.assertNotEqual(told, rows_first)

    def test_no_edge_at_the_sides(self):
        points = noise(48 * 32)
        told = smoothed(Picture(48, 32, points), 64).points
        for k in range(48 * 32):
            x, y = k % 48, k // 48
            inside = (x % 8 in (1, 2, 3, 4, 5, 6) or x in (0, 47)) and (y % 8 in (1, 2, 3, 4, 5, 6) or y in (0, 31))
            if inside:
                self.assertEqual(told[k], points[k])
        self.assertNotEqual(told, points)

    def test_what_is_handed_in_stays(self):
        points = noise(256)
        smoothed(Picture(16, 16, points), 30)
        self.assertEqual(points, noise(256))


if __name__ == "__main__":
    unittest.main()
