"""Point 1: begin."""

import unittest

from tests.helper import REFUSED, ask, begin, code, moved, picture, read, pack, FLAT


class Begin(unittest.TestCase):

    def test_sizes_and_steps_that_may_be(self):
        for wide in range(16, 257, 16):
            self.assertEqual(ask(begin(wide, 16, 1)), [[0]])
            self.assertEqual(ask(begin(16, wide, 1)), [[0]])
        for q in range(1, 65):
            self.assertEqual(ask(begin(16, 16, q)), [[0]])
        self.assertEqual(ask(begin(256, 256, 64)), [[0]])

    def test_sizes_that_may_not_be(self):
        for size in (-2097152, -16, -1, 0, 1, 8, 15, 17, 24, 31, 255, 257, 272, 2097136, 2097151):
            self.assertEqual(ask(begin(size, 16, 8)), [REFUSED], size)
            self.assertEqual(ask(begin(16, size, 8)), [REFUSED], size)

    def test_steps_that_may_not_be(self):
        for q in (-2097152, -1, 0, 65, 2097151):
            self.assertEqual(ask(begin(16, 16, q)), [REFUSED], q)

    def test_there_is_no_picture_at_first(self):
        told = ask(begin(16, 16, 8), picture(256), code(0, [128] * 256), moved(0, 0, 0, 0))
        self.assertEqual(told, [[0], REFUSED, REFUSED, REFUSED])

    def test_begin_again_forgets_the_picture(self):
        told = ask(begin(16, 16, 8), code(1, [128] * 256), picture(256), begin(16, 16, 8), picture(256),
                   code(0, [128] * 256), read(pack("0 1")))
        self.assertEqual(told[2], [0] + [128] * 256)
        self.assertEqual(told[3:], [[0], REFUSED, REFUSED, REFUSED])

    def test_begin_again_sets_sizes_and_step(self):
        told = ask(begin(16, 16, 8), begin(32, 16, 1), code(1, [128] * 256), code(1, [7] * 512), picture(512))
        self.assertEqual(told[2], REFUSED)
        self.assertEqual(told[4], [0] + [7] * 512)

    def test_a_refused_begin_changes_nothing(self):
        for bad in (begin(17, 16, 8), begin(32, 0, 8), begin(32, 32, 65), begin(16, 16, 0)):
            told = ask(begin(16, 16, 1), code(1, [9] * 256), bad, picture(256), read(pack("0 1")), picture(256),
                       code(1, [201] * 256), picture(256))
            self.assertEqual(told[2], REFUSED)
            self.assertEqual(told[3], [0] + [9] * 256)
            self.assertEqual(told[4], [0])
            self.assertEqual(told[5], [0] + [9] * 256)
            self.assertEqual(told[7], [0] + [201] * 256)

    def test_a_refused_begin_ahead_of_the_first(self):
        self.assertEqual(ask(begin(15, 16, 8), begin(16, 16, 8), read(pack("1" + FLAT))), [REFUSED, [0], [0]])


if __name__ == "__main__":
    unittest.main()
