"""Point 6: search and moved."""

import unittest

from tests.helper import REFUSED, ask, begin, code, draw, hills, moved, noise, search, signed, square_at


def point_at(points, wide, high, x, y):
    return points[max(0, min(high - 1, y)) * wide + max(0, min(wide - 1, x))]


def half_point(points, wide, high, x, y):
    """The point at x and y half points, straight from the words."""
    left, right = x // 2, -(-x // 2)
    up, low = y // 2, -(-y // 2)
    upper = (point_at(points, wide, high, left, up) + point_at(points, wide, high, right, up) + 1) // 2
    lower = (point_at(points, wide, high, left, low) + point_at(points, wide, high, right, low) + 1) // 2
    return (upper + lower + 1) // 2


def moved_by_words(points, wide, high, i, j, x, y):
    return [half_point(points, wide, high, 2 * (16 * i + c) + x, 2 * (16 * j + r) + y)
            for r in range(16) for c in range(16)]


def search_by_words(points, wide, high, i, j, p, square):
    def cost(x, y):
        away = zip(square, moved_by_words(points, wide, high, i, j, x, y))
        return sum(abs(a - b) for a, b in away) + len(signed(x - p[0])) + len(signed(y - p[1]))

    whole = [(x, y) for y in range(-14, 15, 2) for x in range(-14, 15, 2)]
    x, y = min(whole, key=lambda place: cost(*place))
    beside = [(x, y)] + [(x + u, y + v) for v in (-1, 0, 1) for u in (-1, 0, 1)]
    x, y = min(beside, key=lambda place: cost(*place))
    return [cost(x, y), x, y]


def asked(wide, high, points, *calls):
    """Answers to calls on a codec that has just these points before."""
    return ask(begin(wide, high, 1), code(1, points), *calls)[2:]


class Moved(unittest.TestCase):

    def test_by_nothing(self):
        points = noise(32 * 32)
        told = asked(32, 32, points, moved(1, 0, 0, 0))
        self.assertEqual(told, [[0] + square_at(points, 32, 16, 0)])

    def test_by_whole_points(self):
        points = noise(48 * 48)
        told = asked(48, 48, points, moved(1, 1, -14, 6), moved(1, 1, 14, -10))
        self.assertEqual(told[0], [0] + square_at(points, 48, 9, 19))
        self.assertEqual(told[1], [0] + square_at(points, 48, 23, 11))

    def test_halves_by_hand(self):
        points = [0] * 256
        points[0:3] = [10, 13, 20]
        points[16:19] = [11, 11, 30]
        told = asked(16, 16, points, moved(0, 0, 1, 0), moved(0, 0, 0, 1), moved(0, 0, 1, 1), moved(0, 0, -1, -1))
        self.assertEqual(told[0][1:4], [12, 17, 10])
        self.assertEqual(told[1][1:4], [11, 12, 25])
        # The means of the upper and the lower two: 12 and 11, then 17 and 21.
        self.assertEqual(told[2][1:3], [12, 19])
        self.assertEqual(told[3][1:3], [10, 12])

    def test_points_beyond_an_edge(self):
        points = draw(16, 16, lambda x, y: 3 * x + 11 * y)
        told = asked(16, 16, points, moved(0, 0, -15, 0), moved(0, 0, 15, 0), moved(0, 0, 0, -15), moved(0, 0, 14, 14))
        self.assertEqual(told[0][1:17], [0] * 8 + [2] + [5, 8, 11, 14, 17, 20, 23][:7])
        self.assertEqual(told[1][1:17], [23, 26, 29, 32, 35, 38, 41, 44] + [45] * 8)
        self.assertEqual([told[2][1 + 16 * r] for r in range(16)], [0] * 8 + [6, 17, 28, 39, 50, 61, 72, 83])
        self.assertEqual(told[3][256], points[255])
        self.assertEqual(told[3][1], points[7 * 16 + 7])

    def test_every_vector_of_every_square(self):
        points = noise(32 * 48, 9)
        for i in (0, 1):
            for j in (0, 1, 2):
                vectors = [(x, y) for x in (-15, -14, -1, 0, 1, 8, 15) for y in (-15, -3, 0, 2, 15)]
                told = asked(32, 48, points, *[moved(i, j, x, y) for x, y in vectors])
                for answer, (x, y) in zip(told, vectors):
                    self.assertEqual(answer, [0] + moved_by_words(points, 32, 48, i, j, x, y), (i, j, x, y))

    def test_refusals(self):
        points = noise(32 * 16)
        bad = [(-1, 0, 0, 0), (2, 0, 0, 0), (0, -1, 0, 0), (0, 1, 0, 0), (0, 0, 16, 0), (0, 0, -16, 0), (0, 0, 0, 16),
               (0, 0, 0, -16), (2097151, 0, 0, 0), (0, -2097152, 0, 0), (0, 0, 2097151, 0), (0, 0, 0, -2097152)]
        self.assertEqual(asked(32, 16, points, *[moved(*call) for call in bad]), [REFUSED] * len(bad))
        square = [5] * 256
        self.assertEqual(asked(32, 16, points, *[search(*call, square) for call in bad]), [REFUSED] * len(bad))

    def test_no_picture_before(self):
        told = ask(begin(16, 16, 1), moved(0, 0, 0, 0), search(0, 0, 0, 0, [5] * 256))
        self.assertEqual(told, [[0], REFUSED, REFUSED])


class Search(unittest.TestCase):

    def test_a_square_that_stayed(self):
        points = noise(48 * 48)
        told = asked(48, 48, points, search(1, 1, 0, 0, square_at(points, 48, 16, 16)))
        self.assertEqual(told, [[2, 0, 0]])

    def test_squares_that_came_from_afar(self):
        points = noise(48 * 48)
        for x, y in ((-14, -14), (14, 14), (14, -14), (-14, 14), (2, 0), (0, -6), (8, 10)):
            square = square_at(points, 48, 16 + x // 2, 16 + y // 2)
            told = asked(48, 48, points, search(1, 1, 0, 0, square), search(1, 1, x, y, square))
            self.assertEqual(told[0], [len(signed(x)) + len(signed(y)), x, y])
            self.assertEqual(told[1], [2, x, y])

    def test_half_points(self):
        points = draw(48, 48, lambda x, y: ((x - 24) * (x - 24) * 2 + (y - 24) * (y - 24) * 3) // 12)
        for x, y in ((1, 0), (0, -1), (1, 1), (-3, 5), (7, -2), (-1, -1), (13, -13)):
            square = moved_by_words(points, 48, 48, 1, 1, x, y)
            told = asked(48, 48, points, search(1, 1, x, y, square))
            self.assertEqual(told, [[2, x, y]])

    def test_the_farthest_half_points(self):
        for x, y in ((15, 15), (-15, -15), (15, -15), (-15, 15)):
            told = asked(16, 16, [100] * 256, search(0, 0, x, y, [101] * 256))
            self.assertEqual(told, [[256 + 2, x, y]])

    def test_whole_places_come_first_even_where_a_half_farther_off_fits(self):
        # The means of the stripes at the right fit, but the stripes themselves are far off.
        points = draw(48, 48, lambda x, y: 255 * (x % 2) if x > 31 else 100)
        square = moved_by_words(points, 48, 48, 1, 1, 13, 0)
        told = asked(48, 48, points, search(1, 1, 0, 0, square))
        self.assertEqual(told, [search_by_words(points, 48, 48, 1, 1, (0, 0), square)])
        self.assertGreater(told[0][0], 1000)

    def test_by_the_words(self):
        points = noise(32 * 32, 12)
        soft = draw(32, 32, hills)
        for i, j, p in ((0, 0, (0, 0)), (1, 0, (15, -15)), (1, 1, (-7, 4))):
            for before, square in ((points, noise(256, 31 + i + j)), (soft, noise(256, 2)), (soft, soft[300:556])):
                told = asked(32, 32, before, search(i, j, *p, square))
                self.assertEqual(told, [search_by_words(before, 32, 32, i, j, p, square)])

    def test_the_price_of_bits(self):
        for p in ((0, 0), (2, -4), (-14, 14), (6, 7)):
            told = asked(16, 16, [100] * 256, search(0, 0, *p, [90] * 256))
            self.assertEqual(told, [[2560 + 2, *p]])

    def test_dearer_by_bits_than_by_points(self):
        # The place of the vector has one point that is 3 away; to leave it costs 4 bits more.
        points = [100] * (48 * 48)
        points[16 * 48 + 16] = 103
        told = asked(48, 48, points, search(1, 1, 0, 0, [100] * 256))
        self.assertEqual(told, [[5, 0, 0]])

    def test_the_first_of_several_across(self):
        points = draw(48, 48, lambda x, y: 255 * (x % 2))
        square = square_at(points, 48, 17, 16)
        self.assertEqual(asked(48, 48, points, search(1, 1, 0, 0, square)), [[6, -2, 0]])

    def test_the_first_of_several_row_by_row(self):
        points = draw(48, 48, lambda x, y: 255 * ((x + y) % 2))
        square = square_at(points, 48, 17, 16)
        self.assertEqual(asked(48, 48, points, search(1, 1, 0, 0, square)), [[6, 0, -2]])

    def test_the_first_of_several_halves_row_by_row(self):
        points = draw(48, 48, lambda x, y: 255 * ((x + y) % 2))
        self.assertEqual(asked(48, 48, points, search(1, 1, 0, 0, [128] * 256)), [[4, 0, -1]])

    def test_the_first_of_several_halves_within_a_row(self):
        points = draw(48, 48, lambda x, y: 255 * (x % 2))
        self.assertEqual(asked(48, 48, points, search(1, 1, 0, 0, [128] * 256)), [[4, -1, 0]])

    def test_the_whole_place_stays_where_a_half_costs_the_same(self):
        # Half a point up, one point is 2 away and two bits are saved.
        points = [100] * (48 * 48)
        points[15 * 48 + 20] = 103
        self.assertEqual(asked(48, 48, points, search(1, 1, 0, -1, [100] * 256)), [[4, 0, 0]])
        points[15 * 48 + 20] = 101
        self.assertEqual(asked(48, 48, points, search(1, 1, 0, -1, [100] * 256)), [[3, 0, -1]])

    def test_the_dearest(self):
        told = asked(16, 16, [0] * 256, search(0, 0, 0, 0, [255] * 256))
        self.assertEqual(told, [[65280 + 2, 0, 0]])

    def test_squares_at_the_edges(self):
        points = draw(32, 32, hills)
        for i in (0, 1):
            for j in (0, 1):
                for x, y in ((-2, 4), (3, -5), (-4, -4)):
                    square = moved_by_words(points, 32, 32, i, j, x, y)
                    cost, u, v = asked(32, 32, points, search(i, j, x, y, square))[0]
                    self.assertEqual((cost, u, v), (2, x, y))

    def test_search_and_moved_change_nothing(self):
        points = noise(32 * 32)
        calls = [moved(0, 1, 3, -3), search(1, 1, 2, 2, noise(256, 8))] * 2
        told = asked(32, 32, points, *calls)
        self.assertEqual(told[:2], told[2:])


if __name__ == "__main__":
    unittest.main()
