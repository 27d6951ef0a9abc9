"""Point 3: read."""

import unittest

from greyreel.bits import BitReader, Refused
from tests.helper import (
    FLAT, REFUSED, about, ask, backward, begin, block, code, draw, hills, noise, num, pack, picture, read, signed,
    smooth, take_apart, values)

AS_BEFORE = num(0)
DOWN = num(3) + "0000"
ACROSS = num(4) + "0000"


def moved(x, y):
    return num(1) + signed(x) + signed(y) + "0000"


def flat(*blocks):
    """A flat square with these blocks' bits; an empty text is a block without levels."""
    return num(2) + "".join("1" if bits else "0" for bits in blocks) + "".join(blocks)


def shows(wide, high, q, *rows):
    """What is shown behind the last of the rows, each of which is read."""
    parts = ask(begin(wide, high, q), *[read(row) for row in rows], picture(wide * high))
    assert parts[1:-1] == [[0]] * len(rows)
    return parts[-1][1:]


class ReadBack(unittest.TestCase):

    def test_what_code_told(self):
        for wide, high in ((16, 16), (64, 16), (16, 48), (32, 48)):
            for q in (1, 2, 3, 10, 33, 64):
                count = wide * high
                pictures = [draw(wide, high, hills), noise(count), draw(wide, high, lambda x, y: hills(x + 3, y - 1)),
                            draw(wide, high, lambda x, y: hills(x + 1, y)), noise(count, 4)]
                calls = [begin(wide, high, q)]
                for k, points in enumerate(pictures):
                    calls += [code(1 if k in (0, 3) else 0, points), picture(count)]
                teller = ask(*calls)
                calls = [begin(wide, high, q)]
                for part in teller[1::2]:
                    calls += [read(part[1:]), picture(count)]
                reader = ask(*calls)
                self.assertEqual(reader[1::2], [[0]] * 5)
                self.assertEqual(reader[2::2], teller[2::2])

    def test_one_may_tell_where_another_left_off(self):
        points = noise(512)
        row = ask(begin(32, 16, 7), code(1, points))[1][1:]
        both = [code(0, draw(32, 16, hills)), picture(512)]
        self.assertEqual(ask(begin(32, 16, 7), code(1, points), *both)[2:], ask(begin(32, 16, 7), read(row), *both)[2:])


class ByHand(unittest.TestCase):

    def test_flat(self):
        self.assertEqual(shows(16, 16, 8, pack("1" + FLAT)), [128] * 256)

    def test_a_first_level_lifts_a_block(self):
        told = shows(16, 16, 2, pack("1" + flat(block((0, 3)), "", "", block((0, -5)))))
        self.assertEqual(told, draw(16, 16, lambda x, y: 134 if x < 8 and y < 8 else 118 if x > 7 and y > 7 else 128))

    def test_blocks_stand_in_order(self):
        told = shows(16, 16, 1, pack("1" + flat(block((0, 1)), block((0, 2)), block((0, 3)), block((0, 4)))))
        self.assertEqual(told, draw(16, 16, lambda x, y: 129 + x // 8 + 2 * (y // 8)))

    def test_the_second_level_stands_at_the_right_the_third_below(self):
        wave = [128 + k for k in shape_of_one()]
        across = shows(16, 16, 1, pack("1" + flat(block((1, 8)), "", "", "")))
        down = shows(16, 16, 1, pack("1" + flat(block((2, 8)), "", "", "")))
        for r in range(8):
            self.assertEqual(across[16 * r:16 * r + 8], wave)
            self.assertEqual(down[16 * r:16 * r + 8], [wave[r]] * 8)

    def test_points_are_held_between_0_and_255(self):
        told = shows(16, 16, 1, pack("1" + flat(block((0, 200)), block((0, -200)), block((0, 127)), block((0, -128)))))
        self.assertEqual(told, draw(16, 16, lambda x, y: 0 if x > 7 else 255))

    def test_flat_by_the_points_above_and_left(self):
        first = flat(*[block((0, -28))] * 4)
        second = flat(*[block((0, 5))] * 4)
        third = flat(*[block((0, 2))] * 4)
        told = shows(32, 32, 1, pack("1" + first + second + third + FLAT))
        # Flat are 100, 100 and 5, 100 and 2; then the mean of 105 and 102, a half rounded up.
        self.assertEqual([told[0], told[16], told[512], told[528]], [100, 105, 102, 104])
        self.assertEqual(told[528:544] + told[1008:1024], [104] * 32)

    def test_down_and_across(self):
        corner = flat("", block((1, 9)), block((2, -9)), block((1, 7), (0, 4)))
        told = shows(32, 32, 1, pack("1" + corner + ACROSS + DOWN + DOWN))
        for k in range(16):
            self.assertEqual(told[32 * k + 16:32 * k + 32], [told[32 * k + 15]] * 16)
            self.assertEqual(told[512 + 32 * k:512 + 32 * k + 16], told[480:496])
            self.assertEqual(told[512 + 32 * k + 16:512 + 32 * k + 32], told[496:512])
        told = shows(32, 32, 1, pack("1" + corner + ACROSS + DOWN + ACROSS))
        for k in range(16):
            self.assertEqual(told[512 + 32 * k + 16:512 + 32 * k + 32], [told[512 + 32 * k + 15]] * 16)

    def test_down_takes_points_that_are_not_smoothed(self):
        # By a smoothed row the lower square's edge would be smoothed twice.
        upper = flat("", block((0, 2)), "", block((0, 2)))
        told = shows(16, 32, 9, pack("1" + upper + DOWN))
        self.assertEqual(told[:16], [128] * 7 + [132, 142] + [146] * 7)
        self.assertEqual(told[496:], told[:16])

    def test_moved_by_each_far_vector(self):
        first = pack("1" + flat(block((0, 9)), block((0, -9)), block((1, 30)), block((2, 30))))
        before = shows(16, 16, 1, first)
        for x, y in ((-15, -15), (15, 15), (15, -15), (-15, 15), (14, 0), (0, 3)):
            told = shows(16, 16, 1, first, pack("0" + moved(x, y)))
            same = ask(begin(16, 16, 1), read(first), [6, 0, 0, x, y])[2][1:]
            self.assertEqual(told, same)
            self.assertNotEqual(told, before)

    def test_vectors_by_the_left(self):
        points = noise(48 * 16)
        row = pack("0" + moved(10, -10) + moved(-20, 20) + AS_BEFORE)
        parts = ask(begin(48, 16, 1), code(1, points), [6, 0, 0, 10, -10], [6, 1, 0, -10, 10], read(row), picture(768))
        self.assertEqual([parts[5][1 + 48 * r + c] for r in range(16) for c in range(16)], parts[2][1:])
        self.assertEqual([parts[5][1 + 48 * r + 16 + c] for r in range(16) for c in range(16)], parts[3][1:])

    def test_levels_that_run_over_sixteen_bits(self):
        self.assertEqual(len(shows(16, 16, 1, pack("1" + flat(block((0, 32767), (0, 32767), (0, -32767)), "", "", "")))),
                         256)


def shape_of_one():
    """Eight numbers back from a 1 at the second place times 8, by the steps' own words."""
    from greyreel.transform import STEPS
    x = [0, 8, 0, 0, 0, 0, 0, 0]
    for t, s, c in STEPS[::-1]:
        x[t] -= (x[s] * c + 16384) // 32768
    return x


class Strict(unittest.TestCase):

    def refused(self, wide, high, q, text, before=True):
        """Refused both as bits written here and with nothing changed."""
        row = pack(text) if isinstance(text, str) else text
        points = noise(wide * high)
        count = wide * high
        if before:
            parts = ask(begin(wide, high, q), code(1, points), picture(count), read(row), about(), picture(count))
            self.assertEqual(parts[3:], [REFUSED, [0, wide, high, q, 1], parts[2]])
        else:
            parts = ask(begin(wide, high, q), read(row), about(), picture(count))
            self.assertEqual(parts[1:], [REFUSED, [0, wide, high, q, 0], REFUSED])

    def taken(self, wide, high, q, text):
        parts = ask(begin(wide, high, q), code(1, noise(wide * high)), read(pack(text)), about())
        self.assertEqual(parts[2:], [[0], [0, wide, high, q, 1]])

    def test_no_bytes(self):
        self.refused(16, 16, 8, [])
        self.refused(16, 16, 8, [], False)

    def test_cut_short(self):
        for q in (1, 30):
            row = ask(begin(32, 32, q), code(1, noise(1024)))[1][1:]
            for count in (0, 1, 2, len(row) // 2, len(row) - 2, len(row) - 1):
                self.refused(32, 32, q, row[:count])
                self.refused(32, 32, q, row[:count], False)

    def test_cut_short_within_each_part(self):
        whole = "0" + moved(5, -3)[:-4] + "1000" + block((3, -40), (59, 1))
        self.taken(16, 16, 1, whole)
        for count in range(8, len(whole), 8):
            self.refused(16, 16, 1, whole[:count])

    def test_a_byte_behind_the_end(self):
        for byte in (0, 1, 128, 255):
            self.refused(16, 16, 8, pack("1" + FLAT) + [byte])
            self.refused(16, 16, 8, pack("0" + AS_BEFORE) + [byte])

    def test_a_bit_of_the_filling_that_is_1(self):
        self.taken(16, 16, 8, "0 1 000000")
        for k in range(6):
            self.refused(16, 16, 8, "0 1" + "0" * k + "1" + "0" * (5 - k))

    def test_kinds_that_may_not_be(self):
        for kind in (5, 6, 7, 100):
            self.refused(16, 16, 8, "0" + num(kind) + "0000")
            self.refused(16, 16, 8, "1" + num(kind) + "0000")

    def test_kinds_that_a_picture_told_by_itself_does_not_use(self):
        self.refused(16, 16, 8, "1" + AS_BEFORE)
        self.refused(16, 16, 8, "1" + moved(0, 0))
        self.refused(32, 16, 8, "1" + FLAT + AS_BEFORE)
        self.refused(32, 16, 8, "1" + FLAT + AS_BEFORE, False)

    def test_down_in_the_first_row_across_in_the_first_column(self):
        for first in "01":
            self.refused(32, 32, 8, first + DOWN + FLAT * 3)
            self.refused(32, 32, 8, first + FLAT + DOWN + FLAT * 2)
            self.refused(32, 32, 8, first + ACROSS + FLAT * 3)
            self.refused(32, 32, 8, first + FLAT * 2 + ACROSS + FLAT)
            self.taken(32, 32, 8, first + FLAT + ACROSS + DOWN + DOWN)
            self.taken(32, 32, 8, first + FLAT + FLAT + DOWN + ACROSS)

    def test_vectors_that_may_not_be(self):
        for x, y in ((16, 0), (-16, 0), (0, 16), (0, -16), (1000, 0), (0, -1000)):
            self.refused(16, 16, 8, "0" + moved(x, y))
        for x, y in ((15, 0), (-15, 0), (0, 15), (0, -15)):
            self.taken(16, 16, 8, "0" + moved(x, y))

    def test_vectors_that_may_not_be_by_the_left(self):
        self.refused(32, 16, 8, "0" + moved(15, 0) + moved(1, 0))
        self.refused(32, 16, 8, "0" + moved(0, -15) + moved(0, -1))
        self.taken(32, 16, 8, "0" + moved(15, -15) + moved(-30, 30))
        self.refused(32, 32, 8, "0" + moved(15, 0) + moved(0, 0) + moved(16, 0) + moved(0, 0))
        self.taken(32, 32, 8, "0" + moved(15, 0) + moved(0, 0) + moved(15, 0) + moved(0, 0))
        self.taken(48, 16, 8, "0" + moved(15, 0) + AS_BEFORE + moved(15, 0))
        self.refused(48, 16, 8, "0" + moved(15, 0) + FLAT + moved(-16, 0))

    def test_levels_that_times_q_are_too_great(self):
        for q, most in ((1, 32767), (2, 16383), (3, 10922), (10, 3276), (64, 511)):
            for sign in (1, -1):
                self.taken(16, 16, q, "1" + flat(block((0, sign * most)), "", "", ""))
                self.refused(16, 16, q, "1" + flat(block((0, sign * (most + 1))), "", "", ""))
                self.refused(16, 16, q, "1" + flat("", "", "", block((2, 1), (1, sign * (most + 1)))))

    def test_more_levels_than_a_block_has(self):
        self.taken(16, 16, 8, "1" + flat(block((63, 1)), "", "", ""))
        self.refused(16, 16, 8, "1" + flat(block((64, 1)), "", "", ""))
        self.taken(16, 16, 8, "1" + flat(block((30, 1), (32, 1)), "", "", ""))
        self.refused(16, 16, 8, "1" + flat(block((30, 1), (33, 1)), "", "", ""))
        self.taken(16, 16, 8, "1" + flat(block(*[(0, 1)] * 64), "", "", ""))
        self.refused(16, 16, 8, "1" + flat(block(*[(0, 1)] * 65), "", "", ""))

    def test_zeros_before_a_number(self):
        for zeros in (20, 21, 25, 40):
            self.refused(16, 16, 8, "1" + "0" * zeros + "1" * (zeros + 1))
        self.assertEqual(BitReader(pack("0" * 20 + "1" * 21)).take_number(), 2097150)
        with self.assertRaises(Refused):
            BitReader(pack("0" * 21 + "1" * 22)).take_number()

    def test_by_the_picture_before_where_there_is_none(self):
        self.refused(16, 16, 8, "0" + AS_BEFORE, False)
        self.refused(16, 16, 8, "0" + FLAT, False)

    def test_behind_a_refusal_the_next_may_be_read(self):
        parts = ask(begin(16, 16, 8), read([255]), read(pack("1" + FLAT)), read([7]), read([64]), picture(256))
        self.assertEqual(parts[1:], [REFUSED, [0], REFUSED, [0], [0] + [128] * 256])

    def test_about_behind_each(self):
        parts = ask(begin(16, 32, 8), about(), read([255]), about(), read(pack("1" + FLAT * 2)), about(), read([255]),
                    about(), picture(512))
        empty, full = [0, 16, 32, 8, 0], [0, 16, 32, 8, 1]
        self.assertEqual(parts, [[0], empty, REFUSED, empty, [0], full, REFUSED, full, [0] + [128] * 512])

    def test_each_bit_turned_is_refused_or_shows_what_its_bits_tell(self):
        whole = "0" + moved(5, -3)[:-4] + "1000" + block((3, -40), (59, 1))
        row = pack(whole)
        points = noise(256)
        for k in range(8 * len(row)):
            other = list(row)
            other[k // 8] ^= 128 >> k % 8
            told = ask(begin(16, 16, 4), code(1, points), picture(256), read(other), about(), picture(256))
            self.assertIn(told[3], ([0], REFUSED))
            self.assertEqual(told[4], [0, 16, 16, 4, 1])
            if told[3] == REFUSED:
                self.assertEqual(told[5], told[2])
            else:
                self.assertEqual(told[5], self.by_its_parts(other, 4, points))

    def by_its_parts(self, row, q, points):
        """What one square shows, put together from the calls moved, values, backward and smooth."""
        by_itself, squares, filling = take_apart(row, 16, 16)
        kind, vector, blocks = squares[0]
        self.assertIn(kind, (2,) if by_itself else (0, 1, 2))
        self.assertNotIn("1", filling)
        self.assertLess(len(filling), 8)
        x, y = vector or (0, 0)
        guess = [128] * 256
        if kind < 2:
            guess = ask(begin(16, 16, q), code(1, points), [6, 0, 0, x, y])[2][1:]
        for corner, told in enumerate(blocks):
            if told:
                back = ask(values(q, told))[0][1:]
                back = ask(backward(back))[0][1:]
                for place in range(64):
                    at = (corner // 2 * 8 + place // 8) * 16 + corner % 2 * 8 + place % 8
                    guess[at] = max(0, min(255, guess[at] + back[place]))
        return ask(smooth(16, 16, q, guess))[0]

    def test_a_picture_of_another_size(self):
        self.refused(32, 16, 8, "1" + FLAT)
        self.refused(16, 16, 8, "1" + FLAT * 2)

    def test_only_what_is_written_in_the_one_way_is_read(self):
        # Whatever is read, of all rows of one byte: the three that show a square without levels.
        good = [byte for byte in range(256)
                if ask(begin(16, 16, 8), read([176]), read([byte]))[2] == [0]]
        self.assertEqual(good, [0b00110000, 0b01000000, 0b10110000])


if __name__ == "__main__":
    unittest.main()
