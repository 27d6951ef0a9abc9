"""A picture told: each square in its cheapest way."""

from greyreel.bits import number_bits, signed_bits
from greyreel.expected import AS_BEFORE, MOVED, expected_square, may_be
from greyreel.grid import SIDE, Picture, cut_square, lay_square
from greyreel.leftover import leftover_bits, leftover_levels, shown_square
from greyreel.motion import find_vector


class Way:

    def __init__(self, vector, bits, square, cost):
        self.vector = vector
        self.bits = bits
        self.square = square
        self.cost = cost


# The bits of the picture with these points; the sheet shows it then.
def tell(sheet, points):
    picture = Picture(sheet.shown.wide, sheet.shown.high, points)
    bits = [1 if sheet.before is None else 0]
    for j in range(picture.high // SIDE):
        hint = (0, 0)
        for i in range(picture.wide // SIDE):
            way = cheapest_way(sheet, cut_square(picture, i, j), i, j, hint)
            lay_square(sheet.shown, i, j, way.square)
            bits.extend(way.bits)
            hint = way.vector
    return bits


def cheapest_way(sheet, square, i, j, hint):
    best = None
    for kind in range(5):
        if may_be(sheet, kind, i, j):
            way = way_of(sheet, square, kind, i, j, hint)
            if best is None or way.cost < best.cost:
                best = way
    return best


# A square that is not moved has the vector (0, 0): its right neighbour is told by that.
def way_of(sheet, square, kind, i, j, hint):
    vector = (0, 0)
    bits = number_bits(kind)
    if kind == MOVED:
        found = find_vector(sheet.before, i, j, square, hint)
        vector = (found[1], found[2])
        bits = bits + signed_bits(vector[0] - hint[0]) + signed_bits(vector[1] - hint[1])
    shown = expected_square(sheet, kind, i, j, vector)
    if kind != AS_BEFORE:
        levels = leftover_levels(sheet.step, square, shown)
        shown = shown_square(sheet.step, shown, levels)
        bits = bits + leftover_bits(levels)
    return Way(vector, bits, shown, way_cost(sheet.step, square, shown, len(bits)))


def way_cost(step, square, shown, count):
    lost = sum([(a - b) * (a - b) for a, b in zip(square, shown)])
    if step == 1:
        return 65536 * lost + count
    return lost + step * step * count
