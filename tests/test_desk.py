"""The interface: calls and answers as one list of numbers."""

import unittest

import greyreel.desk
from tests.helper import begin, code, moved, noise, picture, read, search, show


class Desk(unittest.TestCase):

    def test_no_calls(self):
        self.assertEqual(greyreel.desk.answers([]), [])

    def test_how_answers_are_laid(self):
        points = [128] * 256
        calls = (begin(16, 16, 8) + picture(256) + code(1, points) + read([64]) + picture(256)
                 + show([0] * 255 + [255]) + search(0, 0, 0, 0, points) + moved(0, 0, 0, 0) + picture(255))
        told = [1, 0, 1, -1, 2, 1, 176, 1, 0, 257, 0] + points + [2, 0, 128, 3, 2, 0, 0, 257, 0] + points + [1, -1]
        self.assertEqual(greyreel.desk.answers(calls), told)

    def test_lists_that_are_empty(self):
        calls = begin(16, 16, 8) + code(1, []) + read([]) + show([])
        self.assertEqual(greyreel.desk.answers(calls), [1, 0, 1, -1, 1, -1, 1, -1])

    def test_what_is_handed_in_stays(self):
        points = noise(512)
        calls = (begin(32, 16, 5) + code(1, points) + code(0, points[::-1]) + read([1, 2, 3]) + show(points)
                 + search(1, 0, 3, -3, points[:256]) + moved(0, 0, 15, -15) + picture(512))
        kept = list(calls)
        first = greyreel.desk.answers(calls)
        self.assertEqual(calls, kept)
        self.assertEqual(greyreel.desk.answers(calls), first)
        self.assertEqual(calls, kept)

    def test_nothing_is_kept_from_one_time_to_the_next(self):
        greyreel.desk.answers(begin(16, 16, 8) + code(1, [50] * 256))
        told = greyreel.desk.answers(begin(16, 16, 8) + picture(256) + code(0, [50] * 256))
        self.assertEqual(told, [1, 0, 1, -1, 1, -1])

    def test_what_is_given_back_is_whole_numbers(self):
        points = noise(512, 7)
        calls = (begin(32, 16, 5) + code(1, points) + code(0, points) + picture(512) + show(points)
                 + search(0, 0, 0, 0, points[:256]) + moved(1, 0, 1, 1) + begin(0, 0, 0))
        told = greyreel.desk.answers(calls)
        self.assertIs(type(told), list)
        self.assertEqual({type(number) for number in told}, {int})

    def test_an_answer_that_is_changed_changes_no_other(self):
        calls = begin(16, 16, 1) + code(1, [3] * 256) + picture(256)
        told = greyreel.desk.answers(calls)
        kept = list(told)
        told[:] = [0] * len(told)
        self.assertEqual(greyreel.desk.answers(calls), kept)

    def test_three_hundred_calls(self):
        calls = begin(16, 16, 3) + code(1, [90] * 256) + read([64]) * 298
        self.assertEqual(greyreel.desk.answers(calls)[-596:], [1, 0] * 298)


if __name__ == "__main__":
    unittest.main()
