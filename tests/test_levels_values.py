"""Point 9: levels and values."""

import unittest

from tests.helper import REFUSED, ask, levels, values, wild

NO_STEPS = (-2097152, -64, -1, 0, 65, 66, 128, 2097151)

# At a place, row by row, the level's number in order.
DIAGONALS = [
    0, 1, 5, 6, 14, 15, 27, 28,
    2, 4, 7, 13, 16, 26, 29, 42,
    3, 8, 12, 17, 25, 30, 41, 43,
    9, 11, 18, 24, 31, 40, 44, 53,
    10, 19, 23, 32, 39, 45, 52, 54,
    20, 22, 33, 38, 46, 51, 55, 60,
    21, 34, 37, 47, 50, 56, 59, 61,
    35, 36, 48, 49, 57, 58, 62, 63,
]


def at(place, number):
    return [number if k == place else 0 for k in range(64)]


def first_levels(q, numbers):
    """The levels of numbers, each asked for at the first place, and at the last."""
    told = []
    for start in range(0, len(numbers), 140):
        some = numbers[start:start + 140]
        parts = ask(*[levels(q, at(0, number)) for number in some], *[levels(q, at(63, number)) for number in some])
        first = [part[1] for part in parts[:len(some)]]
        assert first == [part[64] for part in parts[len(some):]]
        told += first
    return told


def size_by_search(q, number):
    """The greatest size that, times q and less half of q, is not above the number's, and times q not above 32767."""
    size = 0
    while (size + 1) * q - q // 2 <= abs(number) and (size + 1) * q <= 32767:
        size += 1
    return size


class Levels(unittest.TestCase):

    def test_the_order_at_all_places(self):
        told = ask(*[levels(1, at(place, 7)) for place in range(64)])
        for place in range(64):
            self.assertEqual(told[place], [0] + at(DIAGONALS[place], 7))
        told = ask(levels(1, list(range(100, 164))))[0][1:]
        self.assertEqual([told[k] for k in DIAGONALS], list(range(100, 164)))
        self.assertEqual(told[:7], [100, 101, 108, 116, 109, 102, 103])

    def test_a_step_of_1(self):
        numbers = [-32767, -12345, -2, -1, 0, 1, 2, 12345, 32766, 32767]
        self.assertEqual(first_levels(1, numbers), numbers)

    def test_the_limit(self):
        self.assertEqual(first_levels(1, [-32768, 32767]), [-32767, 32767])
        self.assertEqual(first_levels(2, [32764, 32765, 32766, 32767, -32767, -32768]),
                         [16382, 16383, 16383, 16383, -16383, -16383])
        self.assertEqual(first_levels(63, [32728, 32729, 32767, -32768]), [519, 520, 520, -520])
        self.assertEqual(first_levels(64, [32671, 32672, 32735, 32736, 32767, -32736, -32768]),
                         [510, 511, 511, 511, 511, -511, -511])
        # Without the limit these were one more: their halves are rounded up.
        for q in (3, 5, 9, 10, 64):
            self.assertEqual(first_levels(q, [-32768]), [-(32767 // q)])

    def test_halves_either_way(self):
        self.assertEqual(first_levels(2, [0, 1, 2, 3, 4, 5, -1, -2, -3, -4, -5]), [0, 1, 1, 2, 2, 3, -1, -1, -2, -2, -3])
        self.assertEqual(first_levels(3, [1, 2, 4, 5, -1, -2, -4, -5]), [0, 1, 1, 2, 0, -1, -1, -2])
        self.assertEqual(first_levels(8, [3, 4, 11, 12, -3, -4, -11, -12]), [0, 1, 1, 2, 0, -1, -1, -2])
        self.assertEqual(first_levels(63, [31, 32, 94, 95, -31, -32, -94, -95]), [0, 1, 1, 2, 0, -1, -1, -2])
        self.assertEqual(first_levels(64, [31, 32, 95, 96, -31, -32, -95, -96]), [0, 1, 1, 2, 0, -1, -1, -2])

    def test_every_step(self):
        for q in range(1, 65):
            some = [0, 1, 2, 5, 100, 5000]
            sizes = [k * q - q // 2 + more for k in (1, 2, 3, 40, 32767 // q) for more in (-1, 0, 1)]
            numbers = [size for size in some + sizes if 0 <= size <= 32767] + [32767]
            wanted = [size_by_search(q, size) for size in numbers]
            self.assertEqual(first_levels(q, numbers), wanted, q)
            self.assertEqual(first_levels(q, [-size for size in numbers]), [-size for size in wanted], q)

    def test_steps_that_are_none(self):
        for q in NO_STEPS:
            self.assertEqual(ask(levels(q, wild(1)), levels(q, [0] * 64)), [REFUSED, REFUSED], q)
        for q in (1, 2, 63, 64):
            self.assertEqual(ask(levels(q, [0] * 64)), [[0] * 65], q)


class Values(unittest.TestCase):

    def test_at_all_places(self):
        told = ask(*[values(3, at(DIAGONALS[place], -5)) for place in range(64)])
        for place in range(64):
            self.assertEqual(told[place], [0] + at(place, -15))
        self.assertEqual(ask(values(1, list(range(64)))), [[0] + DIAGONALS])

    def test_every_step(self):
        for q in range(1, 65):
            numbers = [k - 32 for k in range(64)]
            told = ask(values(q, numbers))[0]
            self.assertEqual(told, [0] + [q * numbers[k] for k in DIAGONALS])

    def test_just_within_and_just_beyond(self):
        for q, most in ((1, 32767), (2, 16383), (3, 10922), (7, 4681), (31, 1057), (32, 1023), (63, 520), (64, 511)):
            for place in (0, 1, 30, 62, 63):
                for sign in (1, -1):
                    told = ask(values(q, at(DIAGONALS[place], sign * most)))
                    self.assertEqual(told, [[0] + at(place, sign * most * q)])
                    # 32768 is no number of a list; -32768 is one.
                    if sign * (most + 1) <= 32767:
                        self.assertEqual(ask(values(q, at(DIAGONALS[place], sign * (most + 1)))), [REFUSED])
        self.assertEqual([q * most for q, most in ((1, 32767), (7, 4681), (31, 1057))], [32767] * 3)

    def test_beyond_in_every_place(self):
        told = ask(*[values(64, at(place, number)) for place in range(64) for number in (512, -512)])
        self.assertEqual(told, [REFUSED] * 128)
        told = ask(*[values(1, at(place, -32768)) for place in range(64)])
        self.assertEqual(told, [REFUSED] * 64)

    def test_all_just_within_and_one_beyond(self):
        most = [520, -520] * 32
        self.assertEqual(ask(values(63, most))[0][0], 0)
        self.assertEqual(ask(values(63, most[:63] + [521])), [REFUSED])
        self.assertEqual(ask(values(63, [-521] + most[1:])), [REFUSED])

    def test_far_beyond(self):
        for q in (2, 3, 64):
            self.assertEqual(ask(values(q, at(5, 32767)), values(q, at(5, -32768))), [REFUSED, REFUSED])

    def test_beyond_sixteen_bits_it_does_not_wrap(self):
        # Each is, times 64, a number that modulo 2^16 were a small one.
        for number in (1024, -1024, 1025, 2048, 32000, -32768):
            self.assertEqual(ask(values(64, at(0, number))), [REFUSED])

    def test_steps_that_are_none(self):
        for q in NO_STEPS:
            self.assertEqual(ask(values(q, [0] * 64), values(q, at(3, 1)), values(q, wild(2))), [REFUSED] * 3, q)

    def test_levels_of_values_are_the_levels(self):
        for q in (1, 2, 5, 63, 64):
            most = 32767 // q
            told = [max(-most, min(most, number)) for number in wild(q)]
            back = ask(values(q, told))[0]
            self.assertEqual(back[0], 0)
            self.assertEqual(ask(levels(q, back[1:])), [[0] + told])

    def test_values_of_levels_are_near(self):
        for q in (1, 2, 5, 63, 64):
            block = [max(-32000, min(32000, number)) for number in wild(q + 70)]
            told = ask(levels(q, block))[0][1:]
            back = ask(values(q, told))[0][1:]
            for number, other in zip(block, back):
                self.assertLessEqual(2 * abs(number - other), q)


if __name__ == "__main__":
    unittest.main()
