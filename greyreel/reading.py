"""A picture read from bytes, strictly."""

from greyreel.bits import BitReader, Refused
from greyreel.expected import AS_BEFORE, MOVED, Sheet, expected_square, may_be
from greyreel.grid import SIDE, lay_square
from greyreel.leftover import read_leftover, shown_square
from greyreel.motion import FARTHEST


def read_picture(wide, high, step, before, row):
    reader = BitReader(row)
    by_itself = reader.take_bit() == 1
    if before is None and not by_itself:
        raise Refused("no picture before")
    sheet = Sheet(wide, high, step, None if by_itself else before)
    for j in range(high // SIDE):
        hint = (0, 0)
        for i in range(wide // SIDE):
            hint = read_square(reader, sheet, i, j, hint)
    reader.finish()
    return sheet.shown


# Gives back the vector that the right neighbour's is told by.
def read_square(reader, sheet, i, j, hint):
    kind = reader.take_number()
    if not may_be(sheet, kind, i, j):
        raise Refused("a kind that may not be")
    vector = read_vector(reader, hint) if kind == MOVED else (0, 0)
    shown = expected_square(sheet, kind, i, j, vector)
    if kind != AS_BEFORE:
        shown = shown_square(sheet.step, shown, read_leftover(reader, sheet.step))
    lay_square(sheet.shown, i, j, shown)
    return vector


def read_vector(reader, hint):
    x = reader.take_signed() + hint[0]
    y = reader.take_signed() + hint[1]
    if abs(x) > FARTHEST or abs(y) > FARTHEST:
        raise Refused("a vector that may not be")
    return (x, y)
