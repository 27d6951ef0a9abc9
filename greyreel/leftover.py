"""What is left over of a square: its four blocks as levels, their bits, and what they show."""

from greyreel.bits import Refused, number_bits
from greyreel.grid import SIDE, cut, lay
from greyreel.levels import GREATEST, levels_of, values_of
from greyreel.transform import backward, forward

CORNERS = ((0, 0), (8, 0), (0, 8), (8, 8))


def leftover_levels(step, square, guess):
    rest = [point - likely for point, likely in zip(square, guess)]
    blocks = [cut(rest, SIDE, left, top, 8) for left, top in CORNERS]
    return [levels_of(step, forward(block)) for block in blocks]


def shown_square(step, guess, blocks):
    # Squares without levels are common, and most of what is read may be such.
    if not any([any(levels) for levels in blocks]):
        return guess
    rest = [0] * (SIDE * SIDE)
    for corner, levels in zip(CORNERS, blocks):
        lay(rest, SIDE, corner[0], corner[1], 8, backward(values_of(step, levels)))
    return [min(max(likely + more, 0), 255) for likely, more in zip(guess, rest)]


def leftover_bits(blocks):
    bits = [1 if any(levels) else 0 for levels in blocks]
    for levels in blocks:
        if any(levels):
            bits.extend(block_bits(levels))
    return bits


def block_bits(levels):
    bits = number_bits(len(levels) - levels.count(0) - 1)
    zeros = 0
    for level in levels:
        if level == 0:
            zeros += 1
        else:
            bits.extend(number_bits(zeros))
            bits.extend(number_bits(abs(level) - 1))
            bits.append(1 if level < 0 else 0)
            zeros = 0
    return bits


def read_leftover(reader, step):
    marks = [reader.take_bit() for corner in CORNERS]
    return [read_block(reader, step) if mark == 1 else [0] * 64 for mark in marks]


def read_block(reader, step):
    levels = [0] * 64
    place = -1
    for turn in range(reader.take_number() + 1):
        place += reader.take_number() + 1
        size = reader.take_number() + 1
        below = reader.take_bit()
        if place >= len(levels):
            raise Refused("more levels than a block has")
        if size * step > GREATEST:
            raise Refused("a level too great")
        levels[place] = -size if below == 1 else size
    return levels
