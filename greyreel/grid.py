"""Points laid row by row in one list, and the pieces of them."""

SIDE = 16


class Picture:

    def __init__(self, wide, high, points):
        self.wide = wide
        self.high = high
        self.points = points


def rows_of(points, wide):
    return [points[start:start + wide] for start in range(0, len(points), wide)]


def joined(rows):
    points = []
    for row in rows:
        points.extend(row)
    return points


# The columns, one behind another, so that what is done to rows can be done to columns.
def turned(points, wide):
    return joined([points[column::wide] for column in range(wide)])


def cut(points, wide, left, top, side):
    starts = starts_of_rows(wide, left, top, side)
    return joined([points[start:start + side] for start in starts])


def lay(points, wide, left, top, side, piece):
    starts = starts_of_rows(wide, left, top, side)
    for start, row in zip(starts, rows_of(piece, side)):
        points[start:start + side] = row


def starts_of_rows(wide, left, top, side):
    return [row * wide + left for row in range(top, top + side)]


def cut_square(picture, i, j):
    return cut(picture.points, picture.wide, i * SIDE, j * SIDE, SIDE)


def lay_square(picture, i, j, square):
    lay(picture.points, picture.wide, i * SIDE, j * SIDE, SIDE, square)
