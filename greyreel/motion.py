"""Squares moved by half points in the picture before, and the search for where one came from."""

from greyreel.bits import signed_length
from greyreel.grid import SIDE

FARTHEST = 15
HIGHEST_COST = 65535


# Points beyond an edge are the nearest ones on it.
def window(picture, left, top, side):
    columns = [min(max(column, 0), picture.wide - 1) for column in range(left, left + side)]
    rows = []
    for row in range(top, top + side):
        start = min(max(row, 0), picture.high - 1) * picture.wide
        rows.append([picture.points[start + column] for column in columns])
    return rows


def means(first, second):
    return [(a + b + 1) // 2 for a, b in zip(first, second)]


# The square that x and y half points from the upper left point of the rows begins.
def between(rows, x, y):
    left = x // 2
    top = y // 2
    taken = [row[left:left + SIDE] for row in rows[top:top + SIDE + 1]]
    if x % 2 == 1:
        behind = [row[left + 1:left + SIDE + 1] for row in rows[top:top + SIDE + 1]]
        taken = [means(first, second) for first, second in zip(taken, behind)]
    points = []
    for k in range(SIDE):
        points.extend(means(taken[k], taken[k + 1]) if y % 2 == 1 else taken[k])
    return points


def moved_square(picture, i, j, x, y):
    rows = window(picture, i * SIDE + x // 2, j * SIDE + y // 2, SIDE + 1)
    return between(rows, x % 2, y % 2)


def vector_cost(square, points, x, y, hint):
    away = sum([abs(a - b) for a, b in zip(square, points)])
    return min(away + signed_length(x - hint[0]) + signed_length(y - hint[1]), HIGHEST_COST)


def whole_places():
    places = []
    for y in range(-14, 15, 2):
        places.extend([(x, y) for x in range(-14, 15, 2)])
    return places


# The place itself comes first, so that it stays where one beside it costs the same.
def places_beside(x, y):
    places = [(x, y)]
    for down in (-1, 0, 1):
        places.extend([(x + across, y + down) for across in (-1, 0, 1)])
    return places


def cheapest_place(square, near, hint, places):
    best = (HIGHEST_COST + 1, 0, 0)
    for x, y in places:
        cost = vector_cost(square, between(near, x + SIDE, y + SIDE), x, y, hint)
        if cost < best[0]:
            best = (cost, x, y)
    return best


# The cost of the square's vector, and its x and y.
def find_vector(picture, i, j, square, hint):
    near = window(picture, i * SIDE - SIDE // 2, j * SIDE - SIDE // 2, 2 * SIDE)
    whole = cheapest_place(square, near, hint, whole_places())
    return cheapest_place(square, near, hint, places_beside(whole[1], whole[2]))
