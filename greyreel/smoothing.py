"""Edges between blocks made softer."""

from greyreel.grid import Picture, joined, rows_of, turned


def smoothed(picture, step):
    # A shift of at most 0 changes nothing.
    if (step - 1) // 2 == 0:
        return picture
    wide = picture.wide
    high = picture.high
    columns = rows_of(turned(picture.points, wide), high)
    points = turned(joined(smoothed_rows(columns, step)), high)
    return Picture(wide, high, joined(smoothed_rows(rows_of(points, wide), step)))


def smoothed_rows(rows, step):
    result = list(rows)
    for k in range(8, len(rows), 8):
        shifts = edge_shifts(rows[k - 2], rows[k - 1], rows[k], rows[k + 1], step)
        if any(shifts):
            result[k - 1] = shifted(rows[k - 1], shifts)
            result[k] = shifted(rows[k], [-shift for shift in shifts])
    return result


def edge_shifts(before_last, last, first, second, step):
    return [edge_shift(p1, p0, q0, q1, step) for p1, p0, q0, q1 in zip(before_last, last, first, second)]


def edge_shift(p1, p0, q0, q1, step):
    if abs(p0 - q0) >= 4 * step or abs(p1 - p0) >= 2 * step or abs(q1 - q0) >= 2 * step:
        return 0
    limit = (step - 1) // 2
    return min(max((4 * (q0 - p0) + (p1 - q1) + 4) // 8, -limit), limit)


def shifted(row, shifts):
    return [min(max(point + shift, 0), 255) for point, shift in zip(row, shifts)]
