"""Point [7]: the ground."""

import unittest

from skyframes.errors import BadFrame, BadMarks, BadSize, BadStream
from skyframes.frames import frames_of, rows_of
from skyframes.ground import Ground
from tests.helping import at_of
from tests.test_craft import NO_MARKS
from tests.test_rows_of import NO_FRAMES

TELLINGS = [(number,) * 5 for number in range(6)]
ZERO = frames_of(0, TELLINGS, 8)
TWO = frames_of(2, TELLINGS, 8)


def heard(*frames):
    """Make a ground at which frames came."""
    ground = Ground(8)
    for frame in frames:
        ground.hear(frame)
    return ground


class GroundTest(unittest.TestCase):
    def test_sizes(self):
        for size in (8, 24):
            self.assertEqual(Ground(size).has(), [])
        for size in (7, 25, True, None):
            self.assertRaises(BadSize, Ground, size)

    def test_nothing_came(self):
        ground = Ground(8)
        self.assertEqual([ground.rows(stream) for stream in range(4)], [[], [], [], []])
        self.assertEqual((ground.has(), ground.wants()), ([], []))

    def test_hear_tells_whether_new(self):
        ground = Ground(8)
        self.assertIs(ground.hear(ZERO[1]), True)
        self.assertIs(ground.hear(ZERO[1]), False)
        self.assertIs(ground.hear(TWO[1]), True)
        self.assertIs(ground.hear(ZERO[0]), True)
        self.assertIs(ground.hear(ZERO[1]), False)
        self.assertEqual(ground.has(), [(0, 0), (0, 1), (2, 1)])

    def test_rows(self):
        ground = heard(TWO[5], ZERO[2], TWO[1], TWO[5], TWO[0])
        self.assertEqual(ground.rows(0), [("gap", 0, 1), ("told", 2, (2,) * 5)])
        self.assertEqual(ground.rows(1), [])
        self.assertEqual(ground.rows(2), rows_of([TWO[0], TWO[1], TWO[5]], 8))
        self.assertEqual([row[:2] for row in ground.rows(2)], [
            ("told", 0), ("told", 1), ("gap", 2), ("told", 5)
        ])

    def test_rows_of_no_stream(self):
        for stream in (-1, 4, True, None):
            self.assertRaises(BadStream, Ground(8).rows, stream)

    def test_has_and_wants_rise(self):
        ground = heard(TWO[4], ZERO[3], TWO[0], ZERO[1])
        self.assertEqual(ground.has(), [(0, 1), (0, 3), (2, 0), (2, 4)])
        self.assertEqual(ground.wants(), [(0, 0), (0, 2), (2, 1), (2, 2), (2, 3)])

    def test_wants_nothing_behind_the_last(self):
        self.assertEqual(heard(ZERO[0], ZERO[1]).wants(), [])

    def test_many_counts_rise_as_numbers(self):
        frames = frames_of(1, [(7,) * 5] * 110, 8)
        ground = heard(frames[109], frames[9], frames[10], frames[100])
        self.assertEqual(ground.has(), [(1, 9), (1, 10), (1, 100), (1, 109)])
        missing = [count for count in range(109) if count not in (9, 10, 100)]
        self.assertEqual(ground.wants(), [(1, count) for count in missing])

    def test_never(self):
        ground = heard(ZERO[4], TWO[3])
        self.assertIsNone(ground.never([(0, 1), (2, 0), (0, 3), (0, 1)]))
        self.assertEqual(ground.wants(), [(0, 0), (0, 2), (2, 1), (2, 2)])
        ground.never([])
        ground.never([(0, 0), (0, 2)])
        self.assertEqual(ground.wants(), [(2, 1), (2, 2)])
        self.assertEqual(ground.has(), [(0, 4), (2, 3)])

    def test_never_of_frames_that_came(self):
        ground = heard(ZERO[0], ZERO[2])
        ground.never([(0, 0), (0, 2), (0, 1)])
        self.assertEqual(ground.has(), [(0, 0), (0, 2)])
        self.assertEqual(ground.wants(), [])
        self.assertEqual(len(ground.rows(0)), 3)
        self.assertIs(ground.hear(ZERO[0]), False)

    def test_never_ahead_of_what_comes_behind(self):
        ground = Ground(8)
        ground.never([(0, 1), (0, 9999)])
        self.assertEqual(ground.wants(), [])
        ground.hear(ZERO[3])
        self.assertEqual(ground.wants(), [(0, 0), (0, 2)])

    def test_one_that_comes_all_the_same(self):
        ground = heard(ZERO[2])
        ground.never([(0, 0), (0, 1)])
        self.assertIs(ground.hear(ZERO[1]), True)
        self.assertEqual(ground.has(), [(0, 1), (0, 2)])
        self.assertEqual([row[:2] for row in ground.rows(0)], [("gap", 0), ("told", 1), ("told", 2)])

    def test_no_frames(self):
        ground = heard(ZERO[2])
        for frame in NO_FRAMES + frames_of(0, TELLINGS, 9):
            self.assertRaises(BadFrame, ground.hear, frame)
        self.assertEqual((ground.has(), ground.wants()), ([(0, 2)], [(0, 0), (0, 1)]))

    def test_no_marks(self):
        for mark in NO_MARKS + [(3, 10000)]:
            ground = heard(ZERO[2])
            self.assertEqual(at_of(self, BadMarks, ground.never, [mark]), 0)
            self.assertEqual(at_of(self, BadMarks, ground.never, [(0, 0), (0, 1), mark, None]), 2)
            self.assertEqual(ground.wants(), [(0, 0), (0, 1)])


if __name__ == "__main__":
    unittest.main()
