"""Points 4 and 5: picture and show."""

import unittest

from tests.helper import FLAT, REFUSED, ask, begin, code, noise, pack, picture, read, show


class PictureCall(unittest.TestCase):

    def test_its_points(self):
        points = noise(32 * 48)
        self.assertEqual(ask(begin(32, 48, 1), code(5, points), picture(32 * 48))[2], [0] + points)

    def test_a_wrong_number_of_points(self):
        points = noise(512)
        for most in (-2097152, -512, 0, 256, 511, 513, 2097151):
            told = ask(begin(32, 16, 1), code(1, points), picture(most), picture(512))
            self.assertEqual(told[2:], [REFUSED, [0] + points], most)

    def test_no_picture_yet(self):
        self.assertEqual(ask(begin(32, 16, 1), picture(512)), [[0], REFUSED])

    def test_the_largest(self):
        row = pack("1" + FLAT * 256)
        told = ask(begin(256, 256, 64), read(row), picture(65536))
        self.assertEqual(told[1], [0])
        self.assertEqual(told[2], [0] + [128] * 65536)


class ShowCall(unittest.TestCase):

    def test_mask_bytes_of_127_and_128(self):
        points = noise(256)
        mask = [127] * 256
        mask[3] = 128
        mask[200] = 255
        mask[7] = 0
        told = ask(begin(16, 16, 1), code(1, points), show(mask))
        self.assertEqual(told[2], [0, points[3], points[200]])

    def test_all_and_none(self):
        points = noise(512, 3)
        told = ask(begin(16, 32, 1), code(1, points), show([128] * 512), show([127] * 512))
        self.assertEqual(told[2:], [[0] + points, [0]])

    def test_in_order(self):
        points = noise(256, 5)
        mask = noise(256, 6)
        told = ask(begin(16, 16, 1), code(1, points), show(mask))[2]
        self.assertEqual(told, [0] + [points[k] for k in range(256) if mask[k] // 128 == 1])

    def test_a_wrong_number_of_mask_bytes(self):
        for count in (0, 1, 255, 257, 512):
            told = ask(begin(16, 16, 1), code(1, [4] * 256), show([255] * count), picture(256))
            self.assertEqual(told[2:], [REFUSED, [0] + [4] * 256], count)

    def test_no_picture_yet(self):
        self.assertEqual(ask(begin(16, 16, 1), show([255] * 256)), [[0], REFUSED])


if __name__ == "__main__":
    unittest.main()
