"""What the tests share: calls as numbers, answers apart, bits by hand, pictures."""

from greyreel.desk import answers

REFUSED = [-1]
MOST = 1048576


def begin(wide, high, q):
    return [0, wide, high, q]


def code(key, points, most=MOST):
    return [1, key, most, len(points)] + list(points)


def read(row):
    return [2, len(row)] + list(row)


def picture(most):
    return [3, most]


def show(mask):
    return [4, len(mask)] + list(mask)


def search(i, j, x, y, square):
    return [5, i, j, x, y, len(square)] + list(square)


def moved(i, j, x, y):
    return [6, i, j, x, y]


def about():
    return [7]


def forward(block):
    return [8, len(block)] + list(block)


def backward(block):
    return [9, len(block)] + list(block)


def levels(q, block):
    return [10, q, len(block)] + list(block)


def values(q, told):
    return [11, q, len(told)] + list(told)


def smooth(wide, high, q, points):
    return [12, wide, high, q, len(points)] + list(points)


def ask(*calls):
    """The answers to the calls, each a list of its own, as many as there are calls."""
    row = [number for call in calls for number in call]
    assert len(calls) <= 300 and len(row) <= 45000
    told = answers(row)
    parts = []
    while told:
        count = told[0]
        assert count >= 1 and len(told) > count
        parts.append(told[1:1 + count])
        told = told[1 + count:]
    assert len(parts) == len(calls)
    return parts


def num(n):
    text = format(n + 1, "b")
    return "0" * (len(text) - 1) + text


def signed(z):
    return num(2 * z - 1 if z > 0 else -2 * z)


def block(*levels):
    """A block's bits; each level: how many zeros stand before it, and the level."""
    text = num(len(levels) - 1)
    for zeros, level in levels:
        text += num(zeros) + num(abs(level) - 1) + ("1" if level < 0 else "0")
    return text


def pack(text):
    """Bytes of bits written as a text, filled with zeros; blanks don't count."""
    bits = text.replace(" ", "")
    bits += "0" * (-len(bits) % 8)
    return [int(bits[k:k + 8], 2) for k in range(0, len(bits), 8)]


# A flat square without levels: the shortest that may stand in every picture.
FLAT = num(2) + "0000"


def take_apart(row, wide, high):
    """Whether a picture is told by itself, its squares as (kind, vector, blocks), and the filling."""
    bits = iter("".join(format(byte, "08b") for byte in row))

    def number():
        zeros = 0
        while next(bits) == "0":
            zeros += 1
        return int("1" + "".join(next(bits) for k in range(zeros)), 2) - 1

    def with_sign():
        n = number()
        return (n + 1) // 2 if n % 2 else -n // 2

    def one_block():
        levels = []
        for k in range(number() + 1):
            levels += [0] * number()
            size = number() + 1
            levels.append(-size if next(bits) == "1" else size)
        return levels + [0] * (64 - len(levels))

    by_itself = next(bits) == "1"
    squares = []
    for k in range(wide * high // 256):
        kind = number()
        vector = None
        if kind == 1:
            left = squares[-1][1] if k % (wide // 16) and squares[-1][0] == 1 else (0, 0)
            vector = (with_sign() + left[0], with_sign() + left[1])
        marks = [next(bits) for k in range(4)] if kind else ["0"] * 4
        squares.append((kind, vector, [one_block() if mark == "1" else None for mark in marks]))
    return by_itself, squares, "".join(bits)


def noise(count, seed=1):
    """Bytes without a plan, the same every time."""
    points = []
    state = seed
    for k in range(count):
        state = (state * 1103515245 + 12345) % 2147483648
        points.append(state // 65536 % 256)
    return points


def wild(seed):
    """64 numbers of sixteen bits, many of them at the ends."""
    high, low = noise(64, seed), noise(64, seed + 1)
    numbers = [(256 * a + b) - 32768 for a, b in zip(high, low)]
    return [(-32768, 32767, 0)[k % 3] if high[k] % 4 == 0 else numbers[k] for k in range(64)]


def draw(wide, high, point):
    return [max(0, min(255, point(x, y))) for y in range(high) for x in range(wide)]


def square_at(points, wide, left, top):
    return [points[(top + y) * wide + left + x] for y in range(16) for x in range(16)]


def hills(x, y):
    """Smooth, and different from place to place, so that a search finds its way by it."""
    return ((x - 9) * (x - 9) * 2 + (y - 15) * (y - 15) * 3) // 18
