"""Point 7: about."""

import unittest

from tests.helper import FLAT, REFUSED, about, ask, begin, code, noise, pack, picture, read, search, show


class About(unittest.TestCase):

    def test_before_a_picture_and_behind_one(self):
        told = ask(begin(32, 16, 7), about(), code(1, noise(512)), about())
        self.assertEqual([told[1], told[3]], [[0, 32, 16, 7, 0], [0, 32, 16, 7, 1]])
        told = ask(begin(16, 48, 64), about(), read(pack("1" + FLAT * 3)), about(), about())
        self.assertEqual(told, [[0], [0, 16, 48, 64, 0], [0], [0, 16, 48, 64, 1], [0, 16, 48, 64, 1]])

    def test_all_sizes_and_steps(self):
        for k in range(1, 17):
            self.assertEqual(ask(begin(16 * k, 272 - 16 * k, 4 * k), about())[1], [0, 16 * k, 272 - 16 * k, 4 * k, 0])
        for q in range(1, 65):
            self.assertEqual(ask(begin(256, 16, q), about())[1], [0, 256, 16, q, 0])

    def test_behind_a_begin_that_is_refused(self):
        for bad in (begin(17, 32, 9), begin(32, 0, 9), begin(32, 32, 0), begin(32, 32, 65), begin(-16, 16, 1)):
            told = ask(begin(16, 16, 8), bad, about(), code(1, [16] * 256), bad, about(), picture(256))
            self.assertEqual(told[1:3], [REFUSED, [0, 16, 16, 8, 0]])
            self.assertEqual(told[4:], [REFUSED, [0, 16, 16, 8, 1], [0] + [16] * 256])

    def test_a_begin_that_is_refused_ahead_of_the_first(self):
        self.assertEqual(ask(begin(32, 32, 65), begin(16, 16, 8), about()), [REFUSED, [0], [0, 16, 16, 8, 0]])

    def test_behind_a_begin_again(self):
        told = ask(begin(16, 16, 8), code(1, [9] * 256), begin(32, 16, 3), about(), begin(16, 16, 8), about())
        self.assertEqual(told[2:], [[0], [0, 32, 16, 3, 0], [0], [0, 16, 16, 8, 0]])

    def test_behind_calls_that_are_refused(self):
        bad = [code(0, [9] * 256), code(1, [9] * 255), code(1, [9] * 256, 0), code(1, noise(256), 1), read([]),
               read([64]), picture(256), show([255] * 256), search(0, 0, 0, 0, [9] * 256)]
        for call in bad:
            self.assertEqual(ask(begin(16, 16, 1), call, about()), [[0], REFUSED, [0, 16, 16, 1, 0]])

    def test_it_changes_nothing(self):
        points = noise(256)
        second = code(0, points[::-1])
        told = ask(begin(16, 16, 5), about(), code(1, points), about(), second, about(), picture(256))
        plain = ask(begin(16, 16, 5), code(1, points), second, picture(256))
        self.assertEqual([told[2], told[4], told[6]], plain[1:])


if __name__ == "__main__":
    unittest.main()
