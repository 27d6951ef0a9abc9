"""What is expected of a square, by its kind."""

from greyreel.grid import SIDE, Picture, cut_square
from greyreel.motion import moved_square

AS_BEFORE = 0
MOVED = 1
FLAT = 2
DOWN = 3
ACROSS = 4


# A picture while it is told or read; one told by itself has None before it.
class Sheet:

    def __init__(self, wide, high, step, before):
        self.step = step
        self.before = before
        self.shown = Picture(wide, high, [0] * (wide * high))


def may_be(sheet, kind, i, j):
    if kind == AS_BEFORE or kind == MOVED:
        return sheet.before is not None
    if kind == DOWN:
        return j > 0
    if kind == ACROSS:
        return i > 0
    return kind == FLAT


def expected_square(sheet, kind, i, j, vector):
    if kind == AS_BEFORE:
        return cut_square(sheet.before, i, j)
    if kind == MOVED:
        return moved_square(sheet.before, i, j, vector[0], vector[1])
    if kind == DOWN:
        return points_above(sheet.shown, i, j) * SIDE
    if kind == ACROSS:
        return spread_across(points_left(sheet.shown, i, j))
    return [flat_point(sheet.shown, i, j)] * (SIDE * SIDE)


def points_above(picture, i, j):
    if j == 0:
        return []
    start = (j * SIDE - 1) * picture.wide + i * SIDE
    return picture.points[start:start + SIDE]


def points_left(picture, i, j):
    if i == 0:
        return []
    start = j * SIDE * picture.wide + i * SIDE - 1
    return picture.points[start:start + SIDE * picture.wide:picture.wide]


def spread_across(points):
    square = []
    for point in points:
        square.extend([point] * SIDE)
    return square


def flat_point(picture, i, j):
    points = points_above(picture, i, j) + points_left(picture, i, j)
    count = len(points)
    if count == 0:
        return 128
    return (sum(points) + count // 2) // count
