"""Point 10: smooth."""

import unittest

from greyreel.desk import answers
from tests.helper import REFUSED, ask, begin, code, draw, noise, picture, smooth
from tests.test_by_the_words import Words

NO_SIZES = (-2097152, -16, -1, 0, 1, 8, 15, 17, 24, 255, 257, 272, 2097136, 2097151)
NO_STEPS = (-2097152, -1, 0, 65, 2097151)


def smoothed(wide, high, q, points):
    told = ask(smooth(wide, high, q, points))[0]
    assert told[0] == 0 and len(told) == 1 + wide * high
    return told[1:]


def turn(points, wide):
    return [points[y * wide + x] for x in range(wide) for y in range(len(points) // wide)]


def by_the_words(wide, high, q, points):
    words = Words(wide, high, q)
    words.shown = {(k % wide, k // wide): point for k, point in enumerate(points)}
    words.smooth()
    return [words.shown[k % wide, k // wide] for k in range(wide * high)]


class OneEdge(unittest.TestCase):

    def edge(self, q, p1, p0, q0, q1):
        """The points about the one edge between columns, all rows alike; about that between rows it is the same."""
        row = [p1] * 7 + [p0, q0] + [q1] * 7
        told = smoothed(16, 16, q, row * 16)
        self.assertEqual(told, told[:16] * 16)
        self.assertEqual(told[:7] + told[9:16], row[:7] + row[9:])
        self.assertEqual(smoothed(16, 16, q, turn(row * 16, 16)), turn(told, 16))
        return told[7:9]

    def test_by_hand(self):
        # 4 times 10, less 10, and 4 are 34; by 8: 4. The other way -26, by 8, down: -4.
        self.assertEqual(self.edge(20, 100, 100, 110, 110), [104, 106])
        self.assertEqual(self.edge(20, 110, 110, 100, 100), [106, 104])
        # 4 times 10, and 92 less 113, and 4 are 23; by 8: 2.
        self.assertEqual(self.edge(20, 92, 100, 110, 113), [102, 108])
        # 4 times -1, and 0, and 4 are 0; 4 times -1, less 1, and 4 are -1; by 8, down: -1.
        self.assertEqual(self.edge(20, 100, 101, 100, 100), [101, 100])
        self.assertEqual(self.edge(20, 99, 101, 100, 100), [100, 101])

    def test_steps_1_and_2_change_nothing(self):
        for q in (1, 2):
            self.assertEqual(self.edge(q, 100, 100, 103, 103), [100, 103])
            points = [100 + k % 3 for k in noise(32 * 32)]
            self.assertEqual(smoothed(32, 32, q, points), points)

    def test_a_step_of_3_shifts_by_1_at_most(self):
        self.assertEqual(self.edge(3, 100, 100, 111, 111), [101, 110])
        self.assertEqual(self.edge(3, 111, 111, 100, 100), [110, 101])
        self.assertEqual(self.edge(3, 100, 100, 112, 112), [100, 112])
        self.assertEqual(self.edge(3, 100, 100, 101, 101), [100, 101])

    def test_a_step_of_64_shifts_by_31_at_most(self):
        # 4 times 83, less 83, and 4 are 253; by 8: 31. With 84: 32 is held at 31.
        self.assertEqual(self.edge(64, 20, 20, 103, 103), [51, 72])
        self.assertEqual(self.edge(64, 20, 20, 104, 104), [51, 73])
        self.assertEqual(self.edge(64, 20, 20, 220, 220), [51, 189])
        self.assertEqual(self.edge(64, 220, 220, 20, 20), [189, 51])
        self.assertEqual(self.edge(64, 0, 0, 255, 255), [31, 224])

    def test_how_far_each_step_shifts(self):
        for q in range(1, 65):
            most = 4 * q - 1
            shift = (q - 1) // 2
            self.assertEqual(self.edge(q, 0, 0, most, most), [shift, most - shift], q)
            self.assertEqual(self.edge(q, most, most, 0, 0), [most - shift, shift], q)

    def test_p0_and_q0_at_and_within_4q(self):
        for q in (3, 5, 17, 40):
            low, high = 40, 40 + 4 * q
            self.assertEqual(self.edge(q, low, low, high, high), [low, high])
            self.assertEqual(self.edge(q, high, high, low, low), [high, low])
            shift = (q - 1) // 2
            self.assertEqual(self.edge(q, low, low, high - 1, high - 1), [low + shift, high - 1 - shift])
            self.assertEqual(self.edge(q, high - 1, high - 1, low, low), [high - 1 - shift, low + shift])

    def test_p1_and_p0_at_and_within_2q(self):
        # p0 and q0 are far enough apart that d is not 0.
        for q in (5, 17, 40):
            shift = (q - 1) // 2
            p0, q0 = 100, 100 + 2 * q
            self.assertEqual(self.edge(q, p0 - 2 * q, p0, q0, q0), [p0, q0])
            self.assertEqual(self.edge(q, p0 + 2 * q, p0, q0, q0), [p0, q0])
            self.assertEqual(self.edge(q, p0 + 2 * q - 1, p0, q0, q0), [p0 + shift, q0 - shift])
            self.assertNotEqual(self.edge(q, p0 - 2 * q + 1, p0, q0, q0), [p0, q0])

    def test_q1_and_q0_at_and_within_2q(self):
        for q in (5, 17, 40):
            shift = (q - 1) // 2
            p0, q0 = 120, 120 - 2 * q
            self.assertEqual(self.edge(q, p0, p0, q0, q0 + 2 * q), [p0, q0])
            self.assertEqual(self.edge(q, p0, p0, q0, q0 - 2 * q), [p0, q0])
            self.assertEqual(self.edge(q, p0, p0, q0, q0 + 2 * q - 1), [p0 - shift, q0 + shift])
            self.assertNotEqual(self.edge(q, p0, p0, q0, q0 - 2 * q + 1), [p0, q0])

    def test_held_at_0_and_at_255(self):
        # 0, and 100 less 40, and 4 are 64; by 8: 8; q0 would be -8.
        self.assertEqual(self.edge(64, 100, 0, 0, 40), [8, 0])
        self.assertEqual(self.edge(64, 40, 0, 0, 100), [0, 7])
        self.assertEqual(self.edge(64, 255, 255, 255, 195), [255, 247])
        self.assertEqual(self.edge(64, 195, 255, 255, 255), [248, 255])
        # Just not held: 8 taken off 8, 8 added to 247; and held by one.
        self.assertEqual(self.edge(64, 68, 8, 8, 8), [16, 0])
        self.assertEqual(self.edge(64, 67, 7, 7, 7), [15, 0])
        self.assertEqual(self.edge(64, 247, 247, 247, 187), [255, 239])
        self.assertEqual(self.edge(64, 248, 248, 248, 188), [255, 240])


class WholePictures(unittest.TestCase):

    def test_by_the_words(self):
        for wide, high in ((16, 16), (64, 16), (16, 64), (48, 32), (256, 16), (16, 256)):
            for q in (1, 2, 3, 4, 7, 20, 63, 64):
                for points in (noise(wide * high, q), [100 + k // (300 // q) for k in noise(wide * high, q + 1)]):
                    self.assertEqual(smoothed(wide, high, q, points), by_the_words(wide, high, q, points))

    def test_the_largest(self):
        for wide, high in ((256, 160), (160, 256)):
            points = [(k * 7 // 90 + grain // 9) % 256 for k, grain in enumerate(noise(wide * high))]
            self.assertEqual(smoothed(wide, high, 30, points), by_the_words(wide, high, 30, points))

    def test_columns_first_then_rows_on_what_is_there_then(self):
        # About the middle of the picture: columns make of 0 and 40 each 9 and 31, then rows take those.
        points = draw(16, 16, lambda x, y: 40 if x > 7 and y > 7 else 0)
        told = smoothed(16, 16, 19, points)
        self.assertEqual([told[16 * y + x] for y in (7, 8) for x in (6, 7, 8, 9)], [0, 3, 9, 9, 0, 6, 22, 31])
        for seed in range(5):
            points = [90 + k // 5 for k in noise(48 * 32, seed)]
            told = smoothed(48, 32, 11, points)
            self.assertEqual(told, by_the_words(48, 32, 11, points))
            rows_first = turn(smoothed(32, 48, 11, turn(points, 48)), 32)
            self.assertNotEqual(told, rows_first)

    def test_only_beside_every_eighth(self):
        points = draw(48, 32, lambda x, y: 100 + x + y)
        told = smoothed(48, 32, 64, [point + k % 2 * 6 for k, point in enumerate(points)])
        for k, (point, other) in enumerate(zip(points, told)):
            x, y = k % 48, k // 48
            if (x % 8 not in (0, 7) or x in (0, 47)) and (y % 8 not in (0, 7) or y in (0, 31)):
                self.assertEqual(other, point + k % 2 * 6)
        for x in range(8, 48, 8):
            told = smoothed(48, 32, 9, draw(48, 32, lambda column, row: 100 if column < x else 110))
            self.assertEqual(told, draw(48, 32, lambda column, row: 104 if column == x - 1 else 106 if column == x
                                        else 100 if column < x else 110))
        for y in range(8, 32, 8):
            told = smoothed(48, 32, 9, draw(48, 32, lambda column, row: 100 if row < y else 110))
            self.assertEqual(told, draw(48, 32, lambda column, row: 104 if row == y - 1 else 106 if row == y
                                        else 100 if row < y else 110))

    def test_every_size(self):
        for k in range(1, 17):
            self.assertEqual(smoothed(16 * k, 16, 9, [77] * (256 * k)), [77] * (256 * k))
            self.assertEqual(smoothed(16, 16 * k, 9, [77] * (256 * k)), [77] * (256 * k))

    def test_what_a_codec_keeps_is_smoothed_so(self):
        # The levels are such that the squares are shown as they are; only the smoothing alters them.
        points = draw(32, 16, lambda x, y: 128 + 9 * ((x // 8 + y // 8) % 2))
        told = ask(begin(32, 16, 9), code(1, points), picture(512))[2]
        self.assertEqual(told, [0] + smoothed(32, 16, 9, points))
        self.assertNotEqual(told, [0] + points)

    def test_what_is_handed_in_stays(self):
        for q in (1, 2, 3, 64):
            calls = smooth(32, 16, q, noise(512))
            kept = list(calls)
            told = answers(calls)
            self.assertEqual(calls, kept)
            told[:] = [0] * len(told)
            self.assertEqual(calls, kept)


class Refusals(unittest.TestCase):

    def test_one_or_the_other_or_both_are_no_sizes(self):
        for size in NO_SIZES:
            told = ask(smooth(size, 16, 8, []), smooth(16, size, 8, []), smooth(size, size, 8, []),
                       smooth(size, 256, 1, []), smooth(256, size, 64, []), smooth(size, 0, 8, []))
            self.assertEqual(told, [REFUSED] * 6, size)

    def test_a_step_that_is_none(self):
        for q in NO_STEPS:
            told = ask(smooth(16, 16, q, noise(256)), smooth(32, 16, q, [9] * 512))
            self.assertEqual(told, [REFUSED] * 2, q)

    def test_neither_sizes_nor_a_step(self):
        for q in NO_STEPS:
            self.assertEqual(ask(smooth(0, 16, q, []), smooth(16, 17, q, []), smooth(-1, -1, q, [])), [REFUSED] * 3, q)

    def test_the_next_call_is_found_behind_a_refusal(self):
        points = [50] * 256
        told = ask(smooth(16, 16, 0, points), smooth(0, 16, 5, []), smooth(16, 16, 5, points))
        self.assertEqual(told, [REFUSED, REFUSED, [0] + points])


if __name__ == "__main__":
    unittest.main()
