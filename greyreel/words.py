"""The calls that need no codec: transforming, levels and smoothing by themselves."""

from greyreel.grid import Picture
from greyreel.levels import GREATEST, levels_of, values_of
from greyreel.sizes import are_sizes_and_step, is_step
from greyreel.smoothing import smoothed
from greyreel.transform import backward, forward


# Each gives back the list of the numbers that a call answers.
def answer_forward(block):
    return [0] + forward(block)


def answer_backward(block):
    return [0] + backward(block)


def answer_levels(step, block):
    if not is_step(step):
        return [-1]
    return [0] + levels_of(step, block)


def answer_values(step, levels):
    if not is_step(step) or any([abs(level) * step > GREATEST for level in levels]):
        return [-1]
    return [0] + values_of(step, levels)


def answer_smooth(wide, high, step, points):
    if not are_sizes_and_step(wide, high, step):
        return [-1]
    return [0] + smoothed(Picture(wide, high, points), step).points
