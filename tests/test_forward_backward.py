"""Point 8: forward and backward."""

import unittest

from tests.helper import ask, backward, forward, wild
from tests.test_by_the_words import STEPS, eight, part, transform, transform_back

ENDS = (-32768, 32767)


def lines(block):
    return [block[k:k + 8] for k in range(0, 64, 8)]


def joined(rows):
    return [number for row in rows for number in row]


def one_at(place, number, rest=0):
    return [number if k == place else rest for k in range(64)]


def numbers(parts):
    assert {part[0] for part in parts} == {0} and {len(part) for part in parts} == {65}
    return [part[1:] for part in parts]


class ForwardBackward(unittest.TestCase):

    def both_by_the_words(self, blocks):
        there = numbers(ask(*[forward(block) for block in blocks]))
        back = numbers(ask(*[backward(block) for block in blocks]))
        for block, ahead, behind in zip(blocks, there, back):
            self.assertEqual(ahead, joined(transform(lines(block))))
            self.assertEqual(behind, joined(transform_back(lines(block))))
        self.assertEqual(numbers(ask(*[backward(block) for block in there])), blocks)
        self.assertEqual(numbers(ask(*[forward(block) for block in back])), blocks)
        for number in joined(there + back):
            self.assertTrue(-32768 <= number <= 32767)

    def test_by_hand(self):
        self.assertEqual(ask(forward([0] * 64), backward([0] * 64)), [[0] * 65, [0] * 65])
        for number in (-32768, -255, -1, 1, 100, 255, 32767):
            self.assertEqual(ask(forward([number] * 64)), [[0, number] + [0] * 63])
            self.assertEqual(ask(backward([number] + [0] * 63)), [[0] + [number] * 64])

    def test_by_hand_a_column_that_wraps(self):
        # x7 becomes 32767 + 32768, which is -1; half of that, a half rounded up, is 0, so that x0 stays. x3 becomes
        # 32768, which is -32768; x0 and half of that are -49152, which is 16384. x1 becomes -16384, then x0 8192.
        column = [-32768, 0, 0, 0, 0, 0, 0, 32767]
        x = list(column)
        seen = []
        for t, s, c in STEPS[:14]:
            x[t] = (x[t] + part(x[s], c) + 32768) % 65536 - 32768
            seen.append(x[t])
        self.assertEqual(seen, [-1, -32768, 0, 0, 0, 0, 0, 0, -32768, 16384, 0, 0, -16384, 8192])
        told = numbers(ask(forward([number for number in column for k in range(8)])))[0]
        self.assertEqual(told[::8], eight(column))
        self.assertEqual(told[0], 8192)
        self.assertEqual([number for k, number in enumerate(told) if k % 8], [0] * 56)

    def test_least_and_greatest_in_every_place(self):
        for number in ENDS:
            for rest in (0, 1, -1):
                self.both_by_the_words([one_at(place, number, rest) for place in range(64)])
            self.both_by_the_words([one_at(place, number, -1 - number) for place in range(64)])

    def test_small_numbers_in_every_place(self):
        for number in (-1, 1, 2, 100):
            self.both_by_the_words([one_at(place, number) for place in range(64)])

    def test_least_and_greatest_by_turns(self):
        blocks = []
        for bit in range(6):
            blocks.append([ENDS[k >> bit & 1] for k in range(64)])
            blocks.append([ENDS[1 - (k >> bit & 1)] for k in range(64)])
        blocks += [[ENDS[(k // 8 + k) % 2] for k in range(64)], [ENDS[0]] * 64, [ENDS[1]] * 64]
        self.both_by_the_words(blocks)

    def test_numbers_at_which_the_first_steps_wrap(self):
        # x7 less x0 is just within and just beyond sixteen bits, either way.
        pairs = [(-1, 32766), (-1, 32767), (-2, 32766), (1, -32767), (1, -32768), (2, -32767), (16384, -16384),
                 (16385, -16384), (-16384, 16383), (-16384, 16384), (0, -32768), (-32768, 0), (-32767, 0)]
        blocks = []
        for first, last in pairs:
            down = [0] * 64
            across = [0] * 64
            down[3], down[59] = first, last
            across[24], across[31] = first, last
            blocks += [down, across]
        self.both_by_the_words(blocks)

    def test_wild_numbers(self):
        self.both_by_the_words([wild(seed) for seed in range(100)])

    def test_columns_come_first_then_rows(self):
        blocks = [[number // 100 for number in wild(seed)] for seed in range(20)]
        told = numbers(ask(*[forward(block) for block in blocks]))
        turned = [[block[k % 8 * 8 + k // 8] for k in range(64)] for block in blocks]
        rows_first = [[block[k % 8 * 8 + k // 8] for k in range(64)]
                      for block in numbers(ask(*[forward(block) for block in turned]))]
        self.assertNotEqual(told, rows_first)
        self.both_by_the_words(blocks)


if __name__ == "__main__":
    unittest.main()
