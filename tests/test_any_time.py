"""The calls that need no codec come at any time, and change nothing that it keeps; long lists of every kind."""

import unittest

import greyreel.desk
from tests.helper import (
    FLAT, REFUSED, about, ask, backward, begin, code, draw, forward, hills, levels, moved, noise, num, pack, picture,
    read, search, show, signed, smooth, square_at, values, wild)
from tests.test_by_the_words import Words, diagonals, level, transform, transform_back

POINTS = noise(512, 9)

# Each kind, answered and refused where it may be; begin's sizes and steps are others than those of the codec below.
WITHOUT_CODEC = [
    forward(wild(1)), backward(wild(2)), levels(5, wild(3)), levels(0, wild(3)), levels(65, wild(3)),
    values(64, [511] * 64), values(64, [512] * 64), values(-1, [0] * 64), smooth(32, 16, 60, POINTS),
    smooth(16, 32, 3, POINTS), smooth(16, 32, 1, POINTS), smooth(16, 32, 0, POINTS), smooth(17, 32, 3, []),
    smooth(16, 0, 3, []), smooth(0, 0, 0, []),
]


def flat_list(rows):
    return [number for row in rows for number in row]


class AnyTime(unittest.TestCase):

    def test_ahead_of_the_first_begin(self):
        for call in WITHOUT_CODEC:
            alone = ask(call)
            told = ask(call, call, begin(0, 16, 8), call, begin(16, 16, 8), call, about(), picture(256))
            self.assertEqual(told, alone * 2 + [REFUSED] + alone + [[0]] + alone + [[0, 16, 16, 8, 0], REFUSED])

    def test_ahead_of_one_another(self):
        alone = [ask(call)[0] for call in WITHOUT_CODEC]
        self.assertEqual(ask(*WITHOUT_CODEC), alone)
        self.assertEqual(ask(*WITHOUT_CODEC[::-1]), alone[::-1])

    def test_refused_and_not(self):
        firsts = [ask(call)[0][0] for call in WITHOUT_CODEC]
        self.assertEqual(firsts, [0, 0, 0, -1, -1, 0, -1, -1, 0, 0, 0, -1, -1, -1, -1])

    def test_between_others_they_change_nothing(self):
        first, second = draw(32, 16, hills), draw(32, 16, lambda x, y: hills(x + 2, y + 1))
        calls = [begin(32, 16, 7), about(), code(1, first), about(), picture(512), code(0, second), show(noise(512)),
                 search(1, 0, 3, -2, square_at(first, 32, 9, 0)), moved(0, 0, 5, 5), read([0]), about(),
                 read(pack("0" + num(0) * 2)), picture(512), code(0, first), picture(512)]
        plain = ask(*calls)
        for call in WITHOUT_CODEC:
            told = ask(*[each for one in calls for each in (call, one)])
            self.assertEqual(told[1::2], plain)
            self.assertEqual(told[::2], ask(call) * len(calls))
        told = ask(*[each for k, one in enumerate(calls) for each in (one, WITHOUT_CODEC[k])])
        self.assertEqual(told[::2], plain)
        self.assertEqual(told[1::2], [ask(call)[0] for call in WITHOUT_CODEC])

    def test_the_kept_picture_is_not_what_smooth_answers(self):
        points = draw(16, 16, lambda x, y: 100 if x < 8 else 104)
        told = ask(begin(16, 16, 1), code(1, points), smooth(16, 16, 64, points), picture(256), about())
        self.assertNotEqual(told[2], [0] + points)
        self.assertEqual(told[3:], [[0] + points, [0, 16, 16, 1, 1]])

    def test_no_calls_but_these(self):
        self.assertEqual(greyreel.desk.answers(forward([0] * 64)), [65] + [0] * 65)
        self.assertEqual(greyreel.desk.answers(levels(0, [0] * 64) + smooth(0, 0, 0, [])), [1, -1, 1, -1])


class Chances:
    """Numbers without a plan, the same every time."""

    def __init__(self, seed):
        self.state = seed

    def below(self, count):
        self.state = (self.state * 6364136223846793005 + 1442695040888963407) % 18446744073709551616
        return (self.state >> 33) % count

    def one_of(self, things):
        return things[self.below(len(things))]


class Model:
    """A list of calls as it grows, and what is to be answered, by the slow codec of the document's words."""

    def __init__(self, seed):
        self.chances = Chances(seed)
        self.words = None
        self.calls = []
        self.wanted = []
        self.kept_rows = []

    def add(self, call, answer):
        self.calls.append(call)
        self.wanted.append(answer)

    def room(self):
        return 45000 - sum(len(call) for call in self.calls)

    def count(self):
        return self.words.wide * self.words.high

    def any_call(self):
        kinds = [self.forward, self.backward, self.levels, self.values, self.smooth, self.begin]
        if self.words:
            kinds += [self.code, self.read, self.read, self.picture, self.show, self.search, self.moved, self.about] * 2
        self.chances.one_of(kinds)()

    def begin(self):
        wide, high, q = [self.chances.one_of(some) for some in ((16, 16, 32, 0), (16, 16, 48, 17), (1, 2, 5, 64, 65))]
        fine = wide % 16 == 0 and wide > 0 and high % 16 == 0 and q < 65
        if fine and self.words and self.chances.below(3):
            return
        self.add(begin(wide, high, q), [0] if fine else REFUSED)
        if fine:
            self.words = Words(wide, high, q)
            self.kept_rows = []

    def some_points(self, count):
        low, spread = self.chances.below(200), self.chances.one_of((2, 10, 255))
        return [min(255, low + k * spread // 255) for k in noise(count, self.chances.below(10000))]

    def code(self):
        # The slow search makes a key of 0 dear.
        key = 0 if self.chances.below(12) == 0 else self.chances.one_of((1, -1, 2097151))
        points = self.some_points(self.count() - (0 if self.chances.below(8) else 16))
        most = self.chances.one_of((1048576, 1048576, 1048576, 0, 1048577, 30))
        refused = len(points) != self.count() or not 1 <= most <= 1048576 or (not key and not self.words.before)
        if refused:
            self.add(code(key, points, most), REFUSED)
            return
        kept = self.words.before
        row = self.words.code(key, points)
        if len(row) > most:
            self.words.before = kept
            self.add(code(key, points, most), REFUSED)
            return
        self.add(code(key, points, most), [len(row)] + row)
        self.kept_rows.append((key, row, self.words.before))

    def read(self):
        squares = self.count() // 256
        way = self.chances.below(6)
        if way == 0 and self.kept_rows:
            key, row, shown = self.chances.one_of(self.kept_rows)
            if key:
                self.add(read(row), [0])
                self.words.before = shown
        elif way == 1:
            self.add(read(pack("1" + FLAT * squares)), [0])
            self.words.before = {(x, y): 128 for y in range(self.words.high) for x in range(self.words.wide)}
        elif way == 2:
            self.add(read(pack("0" + num(0) * squares)), [0] if self.words.before else REFUSED)
            if self.words.before:
                self.words.shown = dict(self.words.before)
                self.words.smooth()
                self.words.before = self.words.shown
        elif way == 3:
            self.read_moved(squares)
        else:
            bad = [[], [255], pack("1" + FLAT * squares) + [0], pack("1" + FLAT * squares)[:-1],
                   pack("1" + num(4) + "0000" + FLAT * (squares - 1)), pack("0" + num(1) + signed(16) + signed(0))]
            self.add(read(self.chances.one_of(bad)), REFUSED)

    def read_moved(self, squares):
        x, y = self.chances.below(31) - 15, self.chances.below(31) - 15
        across = self.words.wide // 16
        told = num(1) + signed(x) + signed(y) + "0000"
        same = num(1) + signed(0) + signed(0) + "0000"
        self.add(read(pack("0" + (told + same * (across - 1)) * (squares // across))),
                 [0] if self.words.before else REFUSED)
        if self.words.before:
            self.words.shown = {(column, row): self.words.half(2 * column + x, 2 * row + y)
                                for column, row in self.words.before}
            self.words.smooth()
            self.words.before = self.words.shown

    def picture(self):
        most = self.count() + (0 if self.chances.below(4) else 1)
        fine = self.words.before and most == self.count()
        self.add(picture(most), [0] + self.words.points() if fine else REFUSED)

    def show(self):
        mask = noise(self.count() if self.chances.below(5) else 7, self.chances.below(1000))
        if self.words.before and len(mask) == self.count():
            told = [point for point, byte in zip(self.words.points(), mask) if byte > 127]
            self.add(show(mask), [0] + told)
        else:
            self.add(show(mask), REFUSED)

    def place(self):
        i, j = self.chances.below(3) - (0 if self.chances.below(4) else 1), self.chances.below(2)
        x, y = self.chances.below(33) - 16, self.chances.below(31) - 15
        fine = (self.words.before and 0 <= i < self.words.wide // 16 and j < self.words.high // 16 and abs(x) < 16)
        return i, j, x, y, fine

    def search(self):
        i, j, x, y, fine = self.place()
        square = self.some_points(256)
        if not fine:
            self.add(search(i, j, x, y, square), REFUSED)
        elif self.chances.below(6) == 0:
            vector = self.words.vector(i, j, square, (x, y))
            away = sum(abs(a - b) for a, b in zip(square, self.words.expected(1, i, j, vector)))
            cost = away + len(signed(vector[0] - x)) + len(signed(vector[1] - y))
            self.add(search(i, j, x, y, square), [cost] + list(vector))

    def moved(self):
        i, j, x, y, fine = self.place()
        self.add(moved(i, j, x, y), [0] + self.words.expected(1, i, j, (x, y)) if fine else REFUSED)

    def about(self):
        words = self.words
        self.add(about(), [0, words.wide, words.high, words.q, 1 if words.before else 0])

    def block(self):
        return wild(self.chances.below(10000))

    def forward(self):
        told = self.block()
        self.add(forward(told), [0] + flat_list(transform([told[k:k + 8] for k in range(0, 64, 8)])))

    def backward(self):
        told = self.block()
        self.add(backward(told), [0] + flat_list(transform_back([told[k:k + 8] for k in range(0, 64, 8)])))

    def step(self):
        return self.chances.one_of((1, 2, 3, 8, 31, 63, 64, 0, 65, -1))

    def levels(self):
        told, q = self.block(), self.step()
        answer = [0] + [level(told[8 * r + c], q) for r, c in diagonals()] if 0 < q < 65 else REFUSED
        self.add(levels(q, told), answer)

    def values(self):
        q = self.step()
        told = [number // self.chances.one_of((1, 64, 65, 66)) for number in self.block()]
        if self.chances.below(3):
            told = [number // 64 for number in told]
        if 0 < q < 65 and all(abs(number * q) <= 32767 for number in told):
            back = {place: number * q for place, number in zip(diagonals(), told)}
            self.add(values(q, told), [0] + [back[k // 8, k % 8] for k in range(64)])
        else:
            self.add(values(q, told), REFUSED)

    def smooth(self):
        wide, high, q = self.chances.one_of((16, 32, 48, 0)), self.chances.one_of((16, 16, 32, 8)), self.step()
        points = self.some_points(wide * high if wide and high % 16 == 0 else 0)
        if points and 0 < q < 65:
            words = Words(wide, high, q)
            words.shown = {(k % wide, k // wide): point for k, point in enumerate(points)}
            words.smooth()
            words.before = words.shown
            self.add(smooth(wide, high, q, points), [0] + words.points())
        else:
            self.add(smooth(wide, high, q, points), REFUSED)


class ManyCalls(unittest.TestCase):

    def test_lists_of_every_kind(self):
        kinds = {}
        for seed in range(10):
            model = Model(seed)
            while len(model.calls) < 300 and model.room() > 4000:
                model.any_call()
            row = flat_list(model.calls)
            kept = list(row)
            told = greyreel.desk.answers(row)
            self.assertEqual(row, kept)
            self.assertTrue(told == flat_list([len(part)] + part for part in model.wanted), self.first(model))
            for call, answer in zip(model.calls, model.wanted):
                kinds[call[0], answer == REFUSED] = True
        wanted = {(number, refused) for number in range(13) for refused in (False, True)}
        self.assertEqual(set(kinds), wanted - {(7, True), (8, True), (9, True)})

    def first(self, model):
        """The first call that is answered otherwise than by the words."""
        for call, told, wanted in zip(model.calls, ask(*model.calls), model.wanted):
            if told != wanted:
                return call[:6], told[:6], wanted[:6]
        return "answers are laid otherwise"

    def test_three_hundred_of_one_kind(self):
        self.assertEqual(ask(begin(16, 16, 3), *[about()] * 299), [[0]] + [[0, 16, 16, 3, 0]] * 299)
        for call in (forward(wild(1)), backward(wild(1)), levels(3, wild(1)), values(3, [7] * 64)):
            self.assertEqual(ask(*[call] * 300), ask(call) * 300)
        self.assertEqual(ask(*[smooth(16, 8, 3, [])] * 300), [REFUSED] * 300)
        self.assertEqual(ask(*[smooth(16, 16, 9, POINTS[:256])] * 170), ask(smooth(16, 16, 9, POINTS[:256])) * 170)

    def test_the_longest_list(self):
        points = noise(40960)
        told = ask(smooth(256, 160, 7, points), begin(256, 160, 7), about(), read(pack("1" + FLAT * 160)), about())
        self.assertEqual(told[1:], [[0], [0, 256, 160, 7, 0], [0], [0, 256, 160, 7, 1]])
        self.assertEqual(told[0], ask(smooth(256, 160, 7, points))[0])


if __name__ == "__main__":
    unittest.main()
