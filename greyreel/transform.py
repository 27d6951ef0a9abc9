"""Blocks of 8 by 8 numbers of sixteen bits, transformed and back without a loss."""

from greyreel.grid import joined, rows_of, turned

STEPS = (
    (7, 0, -32768), (0, 7, 16384), (6, 1, -32768), (1, 6, 16384), (5, 2, -32768), (2, 5, 16384),
    (4, 3, -32768), (3, 4, 16384), (3, 0, -32768), (0, 3, 16384), (2, 1, -32768), (1, 2, 16384),
    (1, 0, -32768), (0, 1, 16384), (3, 2, 6518), (2, 3, -12540), (3, 2, 6518), (7, 4, 3227),
    (4, 7, -6393), (7, 4, 3227), (6, 5, 9940), (5, 6, -18205), (6, 5, 9940), (6, 7, -32768),
    (7, 6, 16384), (5, 4, -32768), (4, 5, 16384), (6, 5, 13573), (5, 6, -23170), (6, 5, 13573),
)


def forward(block):
    columns_done = columns_forward(block)
    return turned(columns_forward(turned(columns_done, 8)), 8)


def backward(block):
    rows_done = turned(columns_backward(turned(block, 8)), 8)
    return columns_backward(rows_done)


# A step goes over all eight columns at once: the numbers xt of the columns are the row t.
# The part of 0 is 0, so a step from zeros is left out: most blocks have few other numbers.
def columns_forward(block):
    rows = rows_of(block, 8)
    for t, s, c in STEPS:
        if any(rows[s]):
            rows[t] = [(a + ((b * c + 16384) >> 15) + 32768) % 65536 - 32768 for a, b in zip(rows[t], rows[s])]
    return joined(rows)


def columns_backward(block):
    rows = rows_of(block, 8)
    for t, s, c in reversed(STEPS):
        if any(rows[s]):
            rows[t] = [(a - ((b * c + 16384) >> 15) + 32768) % 65536 - 32768 for a, b in zip(rows[t], rows[s])]
    return joined(rows)
