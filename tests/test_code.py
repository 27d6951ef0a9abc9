"""Point 2: code."""

import unittest

from tests.helper import (FLAT, REFUSED, ask, begin, block, code, draw, hills, moved, noise, num, pack, picture, read,
                          show, signed, take_apart)


def kinds(row, wide, high):
    return [square[0] for square in take_apart(row, wide, high)[1]]


def told(wide, high, q, *pictures):
    """The bytes of each picture; the first is told by itself."""
    calls = [code(1 if k == 0 else 0, points) for k, points in enumerate(pictures)]
    parts = ask(begin(wide, high, q), *calls)[1:]
    for part in parts:
        assert part[0] == len(part) - 1
    return [part[1:] for part in parts]


def quarters(upper_left, upper_right, lower_left, lower_right):
    """Four blocks of one point each."""
    return draw(16, 16, lambda x, y: ((upper_left, upper_right), (lower_left, lower_right))[y // 8][x // 8])


def four_squares(upper_left, upper_right, lower_left, lower_right):
    squares = ((upper_left, upper_right), (lower_left, lower_right))
    return [squares[y // 16][x // 16][y % 16 * 16 + x % 16] for y in range(32) for x in range(32)]


class ByHand(unittest.TestCase):

    def test_one_flat_square(self):
        self.assertEqual(told(16, 16, 8, [128] * 256), [[0b10110000]])

    def test_as_before(self):
        self.assertEqual(told(16, 16, 8, [128] * 256, [128] * 256), [[0b10110000], [0b01000000]])

    def test_a_level_in_each_block(self):
        self.assertEqual(told(16, 16, 2, [130] * 256), [[0xBF, 0xEE, 0xEE]])

    def test_levels_of_either_sign_in_some_blocks(self):
        row = told(16, 16, 1, quarters(128, 131, 124, 128))[0]
        self.assertEqual(row, pack("1" + num(2) + "0110" + block((0, 3)) + block((0, -4))))

    def test_a_level_rounds_at_half_a_step(self):
        # 4 and half of 8, divided by 8, is 1; 3 and 4, divided by 8, is 0; below 0 as above.
        self.assertEqual(told(16, 16, 8, [132] * 256), [pack("1" + num(2) + "1111" + block((0, 1)) * 4)])
        self.assertEqual(told(16, 16, 8, [131] * 256), [pack("1" + FLAT)])
        self.assertEqual(told(16, 16, 8, [124] * 256), [pack("1" + num(2) + "1111" + block((0, -1)) * 4)])
        self.assertEqual(told(16, 16, 8, [125] * 256), [pack("1" + FLAT)])
        # Half of 7 is 3.
        self.assertEqual(told(16, 16, 7, [132] * 256), [pack("1" + num(2) + "1111" + block((0, 1)) * 4)])
        self.assertEqual(told(16, 16, 7, [131] * 256), [pack("1" + FLAT)])

    def test_a_row_of_squares_is_flat_by_the_left(self):
        row = told(48, 16, 1, [90] * 768)[0]
        first = num(2) + "1111" + block((0, -38)) * 4
        self.assertEqual(row, pack("1" + first + FLAT + FLAT))

    def test_a_column_of_squares_is_flat_by_the_upper(self):
        row = told(16, 48, 1, [90] * 768)[0]
        first = num(2) + "1111" + block((0, -38)) * 4
        self.assertEqual(row, pack("1" + first + FLAT + FLAT))

    def test_vectors_are_told_by_the_left(self):
        before = noise(64 * 32, 3)
        after = draw(64, 32, lambda x, y: before[y * 64 + min(x + 3, 63)])
        by_itself, squares, filling = take_apart(told(64, 32, 1, before, after)[1], 64, 32)
        self.assertFalse(by_itself)
        self.assertEqual([square[:2] for square in squares], [(1, (6, 0))] * 8)
        row = told(64, 32, 1, before, after)[1]
        squares = num(1) + signed(6) + signed(0) + "0000" + (num(1) + signed(0) + signed(0) + "0000") * 3
        self.assertEqual(row, pack("0" + squares * 2))

    def test_behind_a_square_that_is_not_moved_vectors_are_told_by_nothing(self):
        before = noise(48 * 16, 3)
        after = draw(48, 16, lambda x, y: before[y * 48 + (x if 16 <= x < 32 else min(x + 3, 47))])
        square = num(1) + signed(6) + signed(0) + "0000"
        self.assertEqual(told(48, 16, 1, before, after)[1], pack("0" + square + num(0) + square))


class Kinds(unittest.TestCase):

    def test_as_before(self):
        points = noise(512)
        self.assertEqual(kinds(told(32, 16, 4, points, ask_picture(32, 16, 4, points))[1], 32, 16), [0, 0])

    def test_moved(self):
        before = noise(48 * 48)
        for x, y in ((-14, 6), (14, -14), (1, 0), (0, -1), (3, 5), (-9, -7)):
            first = [begin(48, 48, 1), code(1, before)]
            middle = ask(*first, moved(1, 1, x, y))[2][1:]
            after = [middle[(r - 16) * 16 + c - 16] if 16 <= r < 32 and 16 <= c < 32 else before[r * 48 + c]
                     for r in range(48) for c in range(48)]
            row = ask(*first, code(0, after))[2][1:]
            four_as_before = num(0) * 4
            square = num(1) + signed(x) + signed(y) + "0000"
            self.assertEqual(row, pack("0" + four_as_before + square + four_as_before))

    def test_flat(self):
        self.assertEqual(kinds(told(32, 32, 1, [77] * 1024)[0], 32, 32), [2, 2, 2, 2])

    def test_down(self):
        stripes = draw(32, 32, lambda x, y: x * 97 % 256)
        self.assertEqual(kinds(told(32, 32, 1, stripes)[0], 32, 32)[2:], [3, 3])

    def test_across(self):
        stripes = draw(32, 32, lambda x, y: y * 97 % 256)
        self.assertEqual(kinds(told(32, 32, 1, stripes)[0], 32, 32)[1::2], [4, 4])

    def test_all_but_those_before_where_it_is_told_by_itself(self):
        points = noise(48 * 48, 2)
        parts = ask(begin(48, 48, 9), code(1, points), code(-1, points), code(2097151, points))
        self.assertEqual(parts[1], parts[2])
        self.assertEqual(parts[1], parts[3])
        by_itself, squares, filling = take_apart(parts[2][1:], 48, 48)
        self.assertTrue(by_itself)
        self.assertLessEqual({square[0] for square in squares}, {2, 3, 4})

    def test_flat_down_and_across_where_there_is_a_picture_before(self):
        before = noise(32 * 32)
        after = draw(32, 32, lambda x, y: x * 97 % 256 if x >= 16 else y * 97 % 256 if y >= 16 else 128)
        self.assertEqual(kinds(told(32, 32, 1, before, after)[1], 32, 32)[0], 2)
        self.assertEqual(kinds(told(32, 32, 1, before, after)[1], 32, 32)[3], 3)
        turned = [after[x * 32 + y] for y in range(32) for x in range(32)]
        self.assertEqual(kinds(told(32, 32, 1, before, turned)[1], 32, 32)[3], 4)


def ask_picture(wide, high, q, points):
    return ask(begin(wide, high, q), code(1, points), picture(wide * high))[2][1:]


class SameCost(unittest.TestCase):

    def test_as_before_ahead_of_flat(self):
        # With a step of 2 the level shows differences of 24 squared in all: as much as 6 bits.
        row = pack("1" + num(2) + "1000" + block((13, 1)))
        parts = ask(begin(16, 16, 2), read(row), picture(256), code(0, [128] * 256))
        self.assertEqual(sum((point - 128) ** 2 for point in parts[2][1:]), 24)
        self.assertEqual(kinds(parts[3][1:], 16, 16), [0])

    def test_flat_where_it_costs_less_than_as_before(self):
        row = pack("1" + num(2) + "1100" + block((13, 1)) * 2)
        parts = ask(begin(16, 16, 2), read(row), code(0, [128] * 256))
        self.assertEqual(kinds(parts[2][1:], 16, 16), [2])

    def test_moved_ahead_of_flat(self):
        # Moved leaves -1, 1, 1, 1, flat -3, -1, -1, -1: two bits more, as many as the vector has.
        row = told(16, 16, 1, [126] * 256, quarters(125, 127, 127, 127))[1]
        self.assertEqual(row, pack("0" + num(1) + "11" + "1111" + block((0, -1)) + block((0, 1)) * 3))
        self.assertEqual(len(num(1) + "11" + block((0, 1))), len(num(2) + block((0, 3))))

    def test_flat_ahead_of_down(self):
        # By 100 above and 104 at the left, 102 is flat; down leaves -1, 1, 1, 1, flat -3, -1, -1, -1.
        points = four_squares([128] * 256, [100] * 256, [104] * 256, quarters(99, 101, 101, 101))
        self.assertEqual(kinds(told(32, 32, 1, points)[0], 32, 32)[3], 2)

    def test_down_ahead_of_across(self):
        # Down leaves 0, 4, 4, 0, across -4, 0, 0, -4, flat 2 in each.
        points = four_squares([128] * 256, [100] * 256, [104] * 256, quarters(100, 104, 104, 100))
        self.assertEqual(kinds(told(32, 32, 1, points)[0], 32, 32)[3], 3)

    def test_the_cheaper_of_down_and_across(self):
        points = four_squares([128] * 256, [100] * 256, [104] * 256, quarters(104, 104, 104, 100))
        self.assertEqual(kinds(told(32, 32, 1, points)[0], 32, 32)[3], 4)


class Steps(unittest.TestCase):

    def test_a_step_of_1_loses_nothing(self):
        for wide, high in ((16, 16), (64, 16), (16, 48), (48, 32)):
            pictures = [noise(wide * high, seed) for seed in (1, 2, 3)] + [draw(wide, high, hills)]
            pictures.append(draw(wide, high, lambda x, y: 255 * ((x // 3 + y // 5) % 2)))
            for key in (0, 1):
                calls = [begin(wide, high, 1)]
                for k, points in enumerate(pictures):
                    calls += [code(1 if k == 0 else key, points), picture(wide * high)]
                self.assertEqual([part[1:] for part in ask(*calls)[2::2]], pictures)

    def test_a_step_of_1_loses_not_even_what_is_dear_to_tell(self):
        before = [128] * 512
        after = list(before)
        after[300] = 129
        parts = ask(begin(32, 16, 1), code(1, before), code(0, after), picture(512))
        self.assertEqual(parts[3], [0] + after)

    def test_with_other_steps_it_is_near(self):
        points = draw(48, 48, hills)
        worst = 0
        for q in (2, 3, 5, 16, 40, 64):
            shown = ask_picture(48, 48, q, points)
            apart = max(abs(a - b) for a, b in zip(points, shown))
            self.assertLessEqual(apart, 5 * q, q)
            worst = max(worst, apart)
        self.assertGreater(worst, 0)

    def test_greater_steps_take_fewer_bytes(self):
        points = noise(48 * 48)
        counts = [len(told(48, 48, q, points)[0]) for q in (1, 4, 16, 64)]
        self.assertEqual(counts, sorted(counts, reverse=True))
        self.assertEqual(len(set(counts)), 4)


class Refusals(unittest.TestCase):

    def test_points_too_few_and_too_many(self):
        for count in (0, 1, 256, 511, 513, 1024):
            for key in (0, 1):
                parts = ask(begin(32, 16, 1), code(1, [3] * 512), code(key, [9] * count), picture(512))
                self.assertEqual(parts[2:], [REFUSED, [0] + [3] * 512])

    def test_most_that_may_not_be(self):
        for most in (-2097152, -1, 0, 1048577, 2097151):
            parts = ask(begin(16, 16, 1), code(1, [3] * 256), code(1, [128] * 256, most), picture(256))
            self.assertEqual(parts[2:], [REFUSED, [0] + [3] * 256])

    def test_most_that_may_be(self):
        for most in (1, 1048576):
            parts = ask(begin(16, 16, 1), code(1, [128] * 256, most), picture(256))
            self.assertEqual(parts[1:], [[1, 176], [0] + [128] * 256])

    def test_most_just_enough_and_one_too_few(self):
        points = noise(512)
        for key in (0, 1):
            whole = ask(begin(32, 16, 3), code(1, [7] * 512), code(key, points), picture(512))
            count = whole[2][0]
            just = ask(begin(32, 16, 3), code(1, [7] * 512), code(key, points, count), picture(512))
            self.assertEqual(just, whole)
            few = ask(begin(32, 16, 3), code(1, [7] * 512), code(key, points, count - 1), picture(512),
                      code(key, points, count), picture(512))
            self.assertEqual(few[2], REFUSED)
            self.assertEqual(few[3], ask(begin(32, 16, 3), code(1, [7] * 512), picture(512))[2])
            self.assertEqual(few[4:], whole[2:])

    def test_too_many_bytes_at_first_leave_no_picture(self):
        parts = ask(begin(16, 16, 1), code(1, noise(256), 1), picture(256), code(0, [128] * 256))
        self.assertEqual(parts[1:], [REFUSED] * 3)

    def test_by_the_picture_before_where_there_is_none(self):
        parts = ask(begin(16, 16, 8), code(0, [128] * 256), show([255] * 256), code(1, [128] * 256))
        self.assertEqual(parts[1:], [REFUSED, REFUSED, [1, 176]])


class Filling(unittest.TestCase):

    def test_zeros_to_a_whole_byte_and_no_more(self):
        for q in (1, 6, 30):
            for seed in range(8):
                first, second = told(32, 16, q, noise(512, seed), noise(512, seed + 50))
                for row in (first, second):
                    filling = take_apart(row, 32, 16)[2]
                    self.assertLess(len(filling), 8)
                    self.assertEqual(filling.count("1"), 0)


class Largest(unittest.TestCase):

    def test_a_large_picture(self):
        points = draw(208, 208, lambda x, y: (x * 2 + y * 3 + (x * y) % 7) % 256)
        self.assertEqual(ask_picture(208, 208, 1, points), points)
        self.assertEqual(len(ask_picture(208, 208, 20, points)), 208 * 208)


if __name__ == "__main__":
    unittest.main()
