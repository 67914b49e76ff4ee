"""Points [2] and [3]: how tellings are laid into frames."""

import unittest

from skyframes.errors import BadData, BadSize, BadStream
from skyframes.frames import frames_of
from tests.helping import CLOSE, chance_of, layout, some_telling

NO_TELLINGS = [
    (),
    (1,) * 21,
    (256,),
    (-1,),
    (1, 2, 256),
    (-1, 2, 3),
    (True,),
    (1, False),
    ("1",),
    (None,),
    [1, 2],
    "12",
    7,
    None,
]


class FramesOfTest(unittest.TestCase):
    def test_no_tellings(self):
        self.assertEqual(frames_of(0, [], 8), [])

    def test_one_filled_up(self):
        self.assertEqual(frames_of(2, [(7, 9)], 8), [(2, 0, 0, (2, 0, 0, 7, 9, 0, 0, 0))])

    def test_one_that_is_just_full(self):
        self.assertEqual(frames_of(0, [(1, 2, 3, 4, 5)], 8), [(0, 0, 0, (5, 0, 0, 1, 2, 3, 4, 5))])

    def test_just_full_and_another_one(self):
        self.assertEqual(
            frames_of(0, [(1, 2, 3, 4, 5), (6,)], 8),
            [(0, 0, 0, (5, 0, 0, 1, 2, 3, 4, 5)), (0, 1, 0, (1, 0, 1, 6, 0, 0, 0, 0))],
        )

    def test_head_to_tail_over_frames(self):
        self.assertEqual(
            frames_of(1, [(1, 2, 3), (4, 5), (6,)], 8),
            [
                (1, 0, 0, (3, 0, 0, 1, 2, 3, 2, 0)),
                (1, 1, 3, (1, 4, 5, 1, 0, 2, 6, 0)),
            ],
        )

    def test_first_is_none_where_none_begins(self):
        telling = tuple(range(100, 120))
        self.assertEqual(
            frames_of(0, [telling, (1,)], 8),
            [
                (0, 0, 0, (20, 0, 0, 100, 101, 102, 103, 104)),
                (0, 1, None, (105, 106, 107, 108, 109, 110, 111, 112)),
                (0, 2, 7, (113, 114, 115, 116, 117, 118, 119, 1)),
                (0, 3, None, (0, 1, 1, 0, 0, 0, 0, 0)),
            ],
        )

    def test_twenty_numbers_in_the_largest_size(self):
        self.assertEqual(frames_of(3, [(9,) * 20], 24), [(3, 0, 0, (20, 0, 0) + (9,) * 20 + (0,))])

    def test_hundreds_of_numbers(self):
        frames = frames_of(0, [(5,)] * 300, 8)
        self.assertEqual(len(frames), 150)
        self.assertEqual(frames[127], (0, 127, 0, (1, 0, 254, 5, 1, 0, 255, 5)))
        self.assertEqual(frames[128], (0, 128, 0, (1, 1, 0, 5, 1, 1, 1, 5)))
        self.assertEqual(frames[149], (0, 149, 0, (1, 1, 42, 5, 1, 1, 43, 5)))

    def test_300_long_tellings(self):
        chance = chance_of(1)
        tellings = [some_telling(chance) for _ in range(299)] + [(255,) * 20]
        for size in (8, 13, 24):
            frames = frames_of(1, tellings, size)
            self.assertEqual(frames, layout(1, tellings + [CLOSE], size))

    def test_somewhat_more_are_taken(self):
        self.assertEqual(len(frames_of(0, [(1, 2, 3, 4, 5)] * 310, 8)), 310)

    def test_all_streams_and_sizes(self):
        for stream in range(4):
            for size in range(8, 25):
                frames = frames_of(stream, [(1, 255, 0)], size)
                self.assertEqual(frames, [(stream, 0, 0, (3, 0, 0, 1, 255, 0) + (0,) * (size - 6))])

    def test_bad_stream(self):
        for stream in (-1, 4, True, None, "0"):
            self.assertRaises(BadStream, frames_of, stream, [(1,)], 8)

    def test_bad_data(self):
        for telling in NO_TELLINGS:
            self.assertRaises(BadData, frames_of, 0, [telling], 8)
            self.assertRaises(BadData, frames_of, 0, [(1,), telling, (2,)], 8)

    def test_bad_size(self):
        for size in (7, 25, 0, -8, True, None):
            self.assertRaises(BadSize, frames_of, 0, [(1,)], size)
            self.assertRaises(BadSize, frames_of, 0, [], size)

    def test_first_handed_in_is_refused_first(self):
        self.assertRaises(BadStream, frames_of, 4, [()], 7)
        self.assertRaises(BadData, frames_of, 0, [()], 7)


if __name__ == "__main__":
    unittest.main()
