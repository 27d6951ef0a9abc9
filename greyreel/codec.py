"""The codec: sizes, a step and the picture before, and the calls on them."""

from greyreel.bits import Refused, packed
from greyreel.expected import Sheet
from greyreel.grid import SIDE
from greyreel.motion import FARTHEST, find_vector, moved_square
from greyreel.reading import read_picture
from greyreel.sizes import are_sizes_and_step
from greyreel.smoothing import smoothed
from greyreel.telling import tell

MOST_BYTES = 1048576


# Each call gives back the list of the numbers that it answers.
class Codec:

    def __init__(self):
        self.wide = 0
        self.high = 0
        self.step = 0
        self.before = None

    def begin(self, wide, high, step):
        if not are_sizes_and_step(wide, high, step):
            return [-1]
        self.wide = wide
        self.high = high
        self.step = step
        self.before = None
        return [0]

    def code(self, key, most, points):
        if len(points) != self.wide * self.high or not 1 <= most <= MOST_BYTES:
            return [-1]
        if key == 0 and self.before is None:
            return [-1]
        sheet = Sheet(self.wide, self.high, self.step, self.before if key == 0 else None)
        row = packed(tell(sheet, points))
        if len(row) > most:
            return [-1]
        self.before = smoothed(sheet.shown, self.step)
        return [len(row)] + row

    def read(self, row):
        try:
            shown = read_picture(self.wide, self.high, self.step, self.before, row)
        except Refused:
            return [-1]
        self.before = smoothed(shown, self.step)
        return [0]

    def picture(self, most):
        if most != self.wide * self.high or self.before is None:
            return [-1]
        return [0] + self.before.points

    def show(self, mask):
        if len(mask) != self.wide * self.high or self.before is None:
            return [-1]
        return [0] + [point for point, told in zip(self.before.points, mask) if told >= 128]

    def search(self, i, j, x, y, square):
        if not self.can_move(i, j, x, y):
            return [-1]
        return list(find_vector(self.before, i, j, square, (x, y)))

    def moved(self, i, j, x, y):
        if not self.can_move(i, j, x, y):
            return [-1]
        return [0] + moved_square(self.before, i, j, x, y)

    def about(self):
        return [0, self.wide, self.high, self.step, 0 if self.before is None else 1]

    def can_move(self, i, j, x, y):
        if self.before is None or abs(x) > FARTHEST or abs(y) > FARTHEST:
            return False
        return 0 <= i < self.wide // SIDE and 0 <= j < self.high // SIDE
