"""Code and read against a slow codec that goes by the document's words, point by point."""

import unittest

from tests.helper import ask, begin, code, draw, hills, noise, num, pack, picture, signed

STEPS = [tuple(int(part) for part in step.split(",")) for step in (
    "7,0,-32768 0,7,16384 6,1,-32768 1,6,16384 5,2,-32768 2,5,16384 4,3,-32768 3,4,16384 3,0,-32768 0,3,16384 "
    "2,1,-32768 1,2,16384 1,0,-32768 0,1,16384 3,2,6518 2,3,-12540 3,2,6518 7,4,3227 4,7,-6393 7,4,3227 6,5,9940 "
    "5,6,-18205 6,5,9940 6,7,-32768 7,6,16384 5,4,-32768 4,5,16384 6,5,13573 5,6,-23170 6,5,13573").split()]


def sixteen(number):
    number %= 65536
    return number - 65536 if number > 32767 else number


def part(a, c):
    return sixteen((a * c + 16384) // 32768)


def eight(x):
    x = list(x)
    for t, s, c in STEPS:
        x[t] = sixteen(x[t] + part(x[s], c))
    return x


def eight_back(x):
    x = list(x)
    for t, s, c in STEPS[::-1]:
        x[t] = sixteen(x[t] - part(x[s], c))
    return x


def flip(rows):
    return [list(column) for column in zip(*rows)]


def transform(rows):
    columns = flip([eight(column) for column in flip(rows)])
    return [eight(row) for row in columns]


def transform_back(rows):
    rows = [eight_back(row) for row in rows]
    return flip([eight_back(column) for column in flip(rows)])


def diagonals():
    places = []
    for total in range(15):
        ends = [(r, total - r) for r in range(8) if 0 <= total - r < 8]
        places += ends if total % 2 else ends[::-1]
    return places


def level(c, q):
    size = min((abs(c) + q // 2) // q, 32767 // q)
    return size if c > 0 else -size


def hold(number, low, high):
    return low if number < low else high if number > high else number


class Words:
    """A picture is a dict of points by (x, y)."""

    def __init__(self, wide, high, q):
        self.wide, self.high, self.q = wide, high, q
        self.before = None

    def near(self, x, y):
        return self.before[hold(x, 0, self.wide - 1), hold(y, 0, self.high - 1)]

    def half(self, x, y):
        if x % 2 == 0 and y % 2 == 0:
            return self.near(x // 2, y // 2)
        if y % 2 == 0:
            return (self.near(x // 2, y // 2) + self.near(x // 2 + 1, y // 2) + 1) // 2
        if x % 2 == 0:
            return (self.near(x // 2, y // 2) + self.near(x // 2, y // 2 + 1) + 1) // 2
        return (self.half(x, y - 1) + self.half(x, y + 1) + 1) // 2

    def expected(self, kind, i, j, vector):
        left, top = 16 * i, 16 * j
        places = [(x, y) for y in range(top, top + 16) for x in range(left, left + 16)]
        if kind == 0:
            return [self.before[place] for place in places]
        if kind == 1:
            return [self.half(2 * x + vector[0], 2 * y + vector[1]) for x, y in places]
        if kind == 2:
            around = [self.shown[x, top - 1] for x in range(left, left + 16) if j]
            around += [self.shown[left - 1, y] for y in range(top, top + 16) if i]
            mean = (sum(around) + len(around) // 2) // len(around) if around else 128
            return [mean] * 256
        if kind == 3:
            return [self.shown[x, top - 1] for x, y in places]
        return [self.shown[left - 1, y] for x, y in places]

    def vector(self, i, j, square, p):
        def cost(place):
            away = sum(abs(a - b) for a, b in zip(square, self.expected(1, i, j, place)))
            return min(65535, away + len(signed(place[0] - p[0])) + len(signed(place[1] - p[1])))

        whole = min([(x, y) for y in range(-14, 15, 2) for x in range(-14, 15, 2)], key=cost)
        beside = [(whole[0] + x, whole[1] + y) for y in (-1, 0, 1) for x in (-1, 0, 1)]
        return min([whole] + beside, key=cost)

    def left_over(self, square, guess):
        """The bits of the levels, and the points that are shown."""
        rest = [a - b for a, b in zip(square, guess)]
        marks, told, shown = "", "", [0] * 256
        for top in (0, 8):
            for left in (0, 8):
                rows = transform([[rest[(top + r) * 16 + left + c] for c in range(8)] for r in range(8)])
                levels = [level(rows[r][c], self.q) for r, c in diagonals()]
                marks += "1" if any(levels) else "0"
                told += self.block(levels) if any(levels) else ""
                back = [[0] * 8 for r in range(8)]
                for (r, c), size in zip(diagonals(), levels):
                    back[r][c] = size * self.q
                back = transform_back(back)
                for r in range(8):
                    for c in range(8):
                        place = (top + r) * 16 + left + c
                        shown[place] = hold(guess[place] + back[r][c], 0, 255)
        return marks + told, shown

    def block(self, levels):
        places = [k for k in range(64) if levels[k]]
        text = num(len(places) - 1)
        last = -1
        for k in places:
            text += num(k - last - 1) + num(abs(levels[k]) - 1) + str(int(levels[k] < 0))
            last = k
        return text

    def ways(self, key, i, j, square, p):
        kinds = ([] if key else [0, 1]) + [2] + ([3] if j else []) + ([4] if i else [])
        for kind in kinds:
            vector = self.vector(i, j, square, p) if kind == 1 else (0, 0)
            shown = self.expected(kind, i, j, vector)
            bits = num(kind)
            if kind == 1:
                bits += signed(vector[0] - p[0]) + signed(vector[1] - p[1])
            if kind:
                more, shown = self.left_over(square, shown)
                bits += more
            lost = sum((a - b) ** 2 for a, b in zip(square, shown))
            cost = 65536 * lost + len(bits) if self.q == 1 else lost + self.q * self.q * len(bits)
            yield cost, bits, shown, vector

    def code(self, key, points):
        self.shown = {}
        text = "1" if key else "0"
        for j in range(self.high // 16):
            p = (0, 0)
            for i in range(self.wide // 16):
                square = [points[y * self.wide + x] for y in range(16 * j, 16 * j + 16)
                          for x in range(16 * i, 16 * i + 16)]
                cost, bits, shown, p = min(self.ways(key, i, j, square, p), key=lambda way: way[0])
                text += bits
                for k in range(256):
                    self.shown[16 * i + k % 16, 16 * j + k // 16] = shown[k]
        self.smooth()
        self.before = self.shown
        return pack(text)

    def smooth(self):
        for x in range(8, self.wide, 8):
            for y in range(self.high):
                self.smooth_one([(x - 2, y), (x - 1, y), (x, y), (x + 1, y)])
        for y in range(8, self.high, 8):
            for x in range(self.wide):
                self.smooth_one([(x, y - 2), (x, y - 1), (x, y), (x, y + 1)])

    def smooth_one(self, places):
        p1, p0, q0, q1 = [self.shown[place] for place in places]
        if abs(p0 - q0) < 4 * self.q and abs(p1 - p0) < 2 * self.q and abs(q1 - q0) < 2 * self.q:
            s = (self.q - 1) // 2
            d = hold((4 * (q0 - p0) + (p1 - q1) + 4) // 8, -s, s)
            self.shown[places[1]] = hold(p0 + d, 0, 255)
            self.shown[places[2]] = hold(q0 - d, 0, 255)

    def points(self):
        return [self.before[x, y] for y in range(self.high) for x in range(self.wide)]


def mixed(wide, high, seed):
    """Some of everything: soft ground, an edge, a bit of noise."""
    grain = noise(wide * high, seed)
    return draw(wide, high, lambda x, y: hills(x + seed, y - seed) + (60 if x > y + seed else 0)
                + grain[y * wide + x] // (24 if x > 20 else 100))


class ByTheWords(unittest.TestCase):

    def same(self, wide, high, q, pictures):
        words = Words(wide, high, q)
        calls = [begin(wide, high, q)]
        wanted = []
        for key, points in pictures:
            calls += [code(key, points), picture(wide * high)]
            row = words.code(key, points)
            wanted += [[len(row)] + row, [0] + words.points()]
        self.assertEqual(ask(*calls)[1:], wanted)

    def test_one_square(self):
        for q in (1, 2, 3, 8, 31, 64):
            self.same(16, 16, q, [(1, mixed(16, 16, 2)), (0, mixed(16, 16, 3))])

    def test_one_row_of_squares(self):
        for q in (1, 7, 50):
            self.same(48, 16, q, [(1, mixed(48, 16, 5)), (0, mixed(48, 16, 6))])

    def test_several_rows(self):
        for q in (1, 4, 12, 64):
            self.same(32, 48, q, [(1, mixed(32, 48, 1)), (0, mixed(32, 48, 2))])

    def test_several_pictures_and_one_by_itself_among_them(self):
        pictures = [(1, mixed(32, 32, 1)), (0, mixed(32, 32, 2)), (0, mixed(32, 32, 3)), (3, mixed(32, 32, 5)),
                    (0, mixed(32, 32, 7))]
        self.same(32, 32, 6, pictures)

    def test_noise(self):
        for q in (1, 9, 64):
            self.same(32, 32, q, [(1, noise(1024, 1)), (0, noise(1024, 2))])

    def test_black_and_white(self):
        first = draw(32, 32, lambda x, y: 255 * ((x // 5 + y // 7) % 2))
        second = draw(32, 32, lambda x, y: 255 * (((x + 2) // 5 + (y - 1) // 7) % 2))
        for q in (1, 5, 64):
            self.same(32, 32, q, [(1, first), (0, second)])


if __name__ == "__main__":
    unittest.main()
