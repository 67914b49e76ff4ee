"""Point [4]: what is whole in frames of one stream."""

import unittest

from skyframes.errors import BadFrames, BadSize
from skyframes.frames import frames_of, rows_of
from tests.helping import CLOSE, at_of, layout

LONG = tuple(range(20))
TELLINGS = [(1, 2, 3), LONG, (4,), (5, 6), LONG, (7,)]
# By size 8: tellings 0 to 5 lie in frames 0, 0 to 3, 3 and 4, 4, 4 to 7, 7 and 8.
FRAMES = frames_of(2, TELLINGS, 8)
GOOD = (0, 0, 0, (1, 0, 0, 9, 0, 0, 0, 0))
NO_FRAMES = [
    (0, 1, 0, (1, 0, 0, 9, 0, 0, 0)),
    (0, 1, 0, (1, 0, 0, 9, 0, 0, 0, 0, 0)),
    (0, 1, 0, (1, 0, 0, 256, 0, 0, 0, 0)),
    (0, 1, 0, (1, 0, 0, -1, 0, 0, 0, 0)),
    (0, 1, 0, (1, 0, 0, True, 0, 0, 0, 0)),
    (0, 1, 0, (1, 0, 0, None, 0, 0, 0, 0)),
    (0, 1, 0, [1, 0, 0, 9, 0, 0, 0, 0]),
    (0, 1, 0, None),
    (0, 1, 8, (1, 0, 0, 9, 0, 0, 0, 0)),
    (0, 1, -1, (1, 0, 0, 9, 0, 0, 0, 0)),
    (0, 1, False, (1, 0, 0, 9, 0, 0, 0, 0)),
    (0, -1, 0, (1, 0, 0, 9, 0, 0, 0, 0)),
    (0, 10000, 0, (1, 0, 0, 9, 0, 0, 0, 0)),
    (0, True, 0, (1, 0, 0, 9, 0, 0, 0, 0)),
    (0, None, 0, (1, 0, 0, 9, 0, 0, 0, 0)),
    (-1, 1, 0, (1, 0, 0, 9, 0, 0, 0, 0)),
    (4, 1, 0, (1, 0, 0, 9, 0, 0, 0, 0)),
    (False, 1, 0, (1, 0, 0, 9, 0, 0, 0, 0)),
    (0, 1, 0),
    (0, 1, 0, (1, 0, 0, 9, 0, 0, 0, 0), 0),
    (),
    [0, 1, 0, (1, 0, 0, 9, 0, 0, 0, 0)],
    None,
]


def some_of(*counts):
    """Pick frames by their counts, in that order."""
    return [FRAMES[count] for count in counts]


class RowsOfTest(unittest.TestCase):
    def test_none(self):
        self.assertEqual(rows_of([], 8), [])

    def test_all(self):
        told = [("told", number, telling) for number, telling in enumerate(TELLINGS)]
        self.assertEqual(len(FRAMES), 9)
        self.assertEqual(rows_of(FRAMES, 8), told)
        self.assertEqual(rows_of(FRAMES[::-1], 8), told)
        self.assertEqual(rows_of(FRAMES + FRAMES, 8), told)

    def test_some(self):
        self.assertEqual(rows_of(some_of(0), 8), [("told", 0, (1, 2, 3))])
        self.assertEqual(rows_of(some_of(1, 2), 8), [])
        self.assertEqual(rows_of(some_of(4), 8), [("gap", 0, 2), ("told", 3, (5, 6))])
        self.assertEqual(
            rows_of(some_of(4, 3), 8), [("gap", 0, 1), ("told", 2, (4,)), ("told", 3, (5, 6))]
        )
        self.assertEqual(
            rows_of(some_of(8, 7, 0), 8),
            [("told", 0, (1, 2, 3)), ("gap", 1, 4), ("told", 5, (7,))],
        )

    def test_each_frame_missing(self):
        numbers = [[0, 1], [1], [1], [1, 2], [2, 3, 4], [4], [4], [4, 5], [5]]
        self.assertEqual(len(numbers), len(FRAMES))
        for count, missing in enumerate(numbers):
            rows = rows_of(FRAMES[:count] + FRAMES[count + 1:], 8)
            told = [row[1] for row in rows if row[0] == "told"]
            self.assertEqual(told, [number for number in range(6) if number not in missing])

    def test_no_gap_behind_the_last(self):
        self.assertEqual(rows_of(some_of(0, 1, 2), 8), [("told", 0, (1, 2, 3))])

    def test_several_gaps(self):
        frames = frames_of(0, [(1, 2, 3, 4, 5)] * 7, 8)
        self.assertEqual(
            rows_of([frames[5], frames[1], frames[4]], 8),
            [
                ("gap", 0, 0),
                ("told", 1, (1, 2, 3, 4, 5)),
                ("gap", 2, 3),
                ("told", 4, (1, 2, 3, 4, 5)),
                ("told", 5, (1, 2, 3, 4, 5)),
            ],
        )

    def test_the_numbers_laid_ahead_must_be_there(self):
        frames = frames_of(0, [(0, 0, 0, 0), (8, 9)], 8)
        self.assertEqual(frames[0][3][7], 2)
        self.assertEqual(rows_of(frames[1:], 8), [])
        frames = frames_of(0, [(0, 0), (8, 9)], 8)
        self.assertEqual(frames[0][3][5:], (2, 0, 1))
        self.assertEqual(rows_of(frames[1:], 8), [])
        self.assertEqual(rows_of(frames[:1], 8), [("told", 0, (0, 0))])

    def test_behind_a_filled_up_frame(self):
        script = [(1,), CLOSE, (2,), (0, 0, 0), CLOSE, LONG, CLOSE, (3,), CLOSE]
        frames = layout(1, script, 8)
        self.assertEqual(frames[1], (1, 1, 0, (1, 0, 1, 2, 3, 0, 2, 0)))
        rows = [
            ("told", 0, (1,)),
            ("told", 1, (2,)),
            ("told", 2, (0, 0, 0)),
            ("told", 3, LONG),
            ("told", 4, (3,)),
        ]
        self.assertEqual(rows_of(frames, 8), rows)
        self.assertEqual(rows_of(frames[1:], 8), [("gap", 0, 0)] + rows[1:])

    def test_numbers_above_256(self):
        tellings = [(number // 256, number % 256) for number in range(300)]
        frames = frames_of(3, tellings, 9)
        told = [("told", number, telling) for number, telling in enumerate(tellings)]
        self.assertEqual(rows_of(frames, 9), told)
        self.assertEqual(rows_of(frames[-1:], 9), [("gap", 0, 298), told[299]])

    def test_counts_at_the_edges(self):
        for count in (0, 9999):
            frame = (0, count) + GOOD[2:]
            self.assertEqual(rows_of([frame], 8), [("told", 0, (9,))])
        self.assertEqual(at_of(self, BadFrames, rows_of, [(0, 10000) + GOOD[2:]], 8), 0)
        self.assertEqual(at_of(self, BadFrames, rows_of, [GOOD, (0, 10000) + GOOD[2:]], 8), 1)

    def test_no_frames(self):
        for frame in NO_FRAMES:
            self.assertEqual(at_of(self, BadFrames, rows_of, [frame], 8), 0)
            self.assertEqual(at_of(self, BadFrames, rows_of, [GOOD, GOOD, frame, None], 8), 2)

    def test_another_size(self):
        self.assertEqual(at_of(self, BadFrames, rows_of, FRAMES, 9), 0)
        self.assertEqual(at_of(self, BadFrames, rows_of, [GOOD] + frames_of(0, [(9,)], 9), 8), 1)

    def test_another_stream(self):
        frames = [FRAMES[0], FRAMES[1], GOOD, FRAMES[2]]
        self.assertEqual(at_of(self, BadFrames, rows_of, frames, 8), 2)
        for stream in (0, 1, 3):
            other = (stream, 20) + GOOD[2:]
            self.assertEqual(at_of(self, BadFrames, rows_of, [FRAMES[0], other, None], 8), 1)

    def test_unlike_one_ahead(self):
        for unlike in (
            (0, 0, None, GOOD[3]),
            (0, 0, 1, GOOD[3]),
            (0, 0, 0, (1, 0, 0, 8, 0, 0, 0, 0)),
            (0, 0, 0, (1, 0, 0, 9, 0, 0, 0, 1)),
        ):
            self.assertEqual(at_of(self, BadFrames, rows_of, [GOOD, unlike], 8), 1)
            self.assertEqual(at_of(self, BadFrames, rows_of, [GOOD, GOOD, unlike, None], 8), 2)
        frames = frames_of(0, [LONG], 8)
        unlike = (0, 0, 0, (20, 0, 0, 9, 9, 9, 9, 9))
        self.assertEqual(at_of(self, BadFrames, rows_of, frames + [frames[1], unlike], 8), 4)

    def test_size_is_refused_ahead_of_frames(self):
        for size in (7, 25, True):
            self.assertRaises(BadSize, rows_of, [None], size)
            self.assertRaises(BadSize, rows_of, [], size)

    def test_sizes_at_the_edges(self):
        for size in (8, 24):
            frames = frames_of(0, TELLINGS, size)
            self.assertEqual(len(rows_of(frames, size)), 6)


if __name__ == "__main__":
    unittest.main()
