"""Points [5] and [6]: the craft."""

import unittest

from skyframes.craft import Craft
from skyframes.errors import BadData, BadMarks, BadRoom, BadSize, BadStream
from tests.helping import CLOSE, at_of, layout
from tests.test_frames_of import NO_TELLINGS

FIVE = (1, 2, 3, 4, 5)
NO_MARKS = [
    (),
    (0,),
    (0, 0, 0),
    (4, 0),
    (-1, 0),
    (0, -1),
    (0, 10000),
    (True, 0),
    (0, False),
    (0, None),
    ("0", 0),
    [0, 0],
    None,
    0,
]


def full_craft(room, many):
    """Make a craft in a window whose stream 0 made frames 0 to many - 1, by size 8."""
    craft = Craft(8, room)
    craft.begin()
    for _ in range(many):
        craft.tell(0, FIVE)
    return craft


def marks_of(craft):
    """Tell the marks of what is kept."""
    return [(stream, count) for stream, count, _ in craft.kept()]


def all_beats(craft):
    """Beat till nothing is sent; tell the marks of the frames."""
    sent = []
    frame = craft.beat()
    while frame is not None:
        sent.append(frame[:2])
        frame = craft.beat()
    return sent


def state_of(craft):
    """Tell all that can be asked without doing anything."""
    return craft.kept(), craft.lost(), craft.waits()


class MakingTest(unittest.TestCase):
    def test_sizes_and_rooms(self):
        for size in (8, 24):
            for room in (1, 60):
                self.assertEqual(state_of(Craft(size, room)), ([], [], []))
        for size in (7, 25, True, None):
            self.assertRaises(BadSize, Craft, size, 0)
        for room in (0, 61, -1, True, None):
            self.assertRaises(BadRoom, Craft, 8, room)

    def test_tell_tells_the_number(self):
        craft = Craft(8, 60)
        self.assertEqual([craft.tell(0, (1,)) for _ in range(3)], [0, 1, 2])
        self.assertEqual(craft.tell(3, (1,)), 0)
        self.assertEqual(craft.tell(0, (1,)), 3)

    def test_more_than_256_tellings(self):
        craft = Craft(8, 60)
        craft.begin()
        for number in range(300):
            self.assertEqual(craft.tell(0, FIVE), number)
            self.assertEqual(craft.beat(), (0, number, 0, (5, number // 256, number % 256) + FIVE))

    def test_1000_tellings_and_somewhat_more(self):
        craft = Craft(24, 1)
        for number in range(1010):
            self.assertEqual(craft.tell(2, (0,)), number)

    def test_only_full_frames_are_kept(self):
        craft = Craft(8, 60)
        craft.tell(0, (1, 2, 3, 4))
        self.assertEqual(craft.kept(), [])
        craft.tell(0, (1, 2, 3, 4))
        self.assertEqual(craft.kept(), [(0, 0, "fresh")])
        craft.tell(0, (1, 2, 3, 4, 5, 6))
        self.assertEqual(craft.kept(), [(0, 0, "fresh"), (0, 1, "fresh")])

    def test_close(self):
        craft = Craft(8, 60)
        self.assertIs(craft.close(0), False)
        craft.tell(0, (1,))
        self.assertIs(craft.close(1), False)
        self.assertIs(craft.close(0), True)
        self.assertIs(craft.close(0), False)
        craft.tell(0, FIVE)
        self.assertIs(craft.close(0), False)
        self.assertEqual(marks_of(craft), [(0, 0), (0, 1)])

    def test_filled_up_and_told_on(self):
        script = [(1,), CLOSE, (2, 3), (4,) * 20, CLOSE, (5,), CLOSE, (6,), (7,), (8,)]
        craft = Craft(8, 60)
        craft.begin()
        for part in script:
            if part == CLOSE:
                self.assertIs(craft.close(1), True)
            else:
                craft.tell(1, part)
        frames = layout(1, script, 8)
        self.assertEqual(frames[0], (1, 0, 0, (1, 0, 0, 1, 0, 0, 0, 0)))
        self.assertEqual([craft.beat() for _ in frames], frames)
        self.assertIsNone(craft.beat())

    def test_kept_in_the_order_of_being_done(self):
        craft = Craft(8, 60)
        craft.tell(2, (1,))
        craft.tell(1, (1,))
        craft.tell(3, FIVE)
        craft.close(1)
        craft.close(2)
        craft.tell(1, FIVE)
        self.assertEqual(marks_of(craft), [(3, 0), (1, 0), (2, 0), (1, 1)])

    def test_bad_stream_and_data(self):
        craft = Craft(8, 2)
        craft.tell(0, (1,))
        for stream in (-1, 4, True, None):
            self.assertRaises(BadStream, craft.tell, stream, ())
            self.assertRaises(BadStream, craft.close, stream)
        for data in NO_TELLINGS:
            self.assertRaises(BadData, craft.tell, 0, data)
        self.assertEqual(craft.tell(0, (2,)), 1)
        craft.begin()
        self.assertEqual(craft.beat(), (0, 0, 0, (1, 0, 0, 1, 1, 0, 1, 2)))


class RoomTest(unittest.TestCase):
    def test_none_sent(self):
        craft = full_craft(2, 2)
        self.assertEqual(craft.lost(), [])
        craft.tell(0, FIVE)
        self.assertEqual(craft.kept(), [(0, 1, "fresh"), (0, 2, "fresh")])
        self.assertEqual(craft.lost(), [(0, 0)])

    def test_oldest_sent_goes_first(self):
        craft = full_craft(4, 4)
        craft.again([(0, 2), (0, 1)])
        self.assertEqual([craft.beat()[:2], craft.beat()[:2]], [(0, 2), (0, 1)])
        craft.tell(0, FIVE)
        self.assertEqual(
            craft.kept(), [(0, 0, "fresh"), (0, 2, "sent"), (0, 3, "fresh"), (0, 4, "fresh")]
        )
        craft.tell(0, FIVE)
        self.assertEqual(marks_of(craft), [(0, 0), (0, 3), (0, 4), (0, 5)])
        self.assertEqual(craft.lost(), [])
        craft.tell(0, FIVE)
        self.assertEqual(marks_of(craft), [(0, 3), (0, 4), (0, 5), (0, 6)])
        self.assertEqual(craft.lost(), [(0, 0)])

    def test_room_of_one(self):
        craft = Craft(8, 1)
        craft.tell(0, (9,) * 20)
        self.assertEqual(craft.kept(), [(0, 1, "fresh")])
        self.assertEqual(craft.lost(), [(0, 0)])
        craft.close(0)
        craft.tell(2, FIVE)
        self.assertEqual(craft.kept(), [(2, 0, "fresh")])
        self.assertEqual(craft.lost(), [(0, 0), (0, 1), (0, 2)])

    def test_room_of_sixty(self):
        craft = full_craft(60, 60)
        self.assertEqual((len(craft.kept()), craft.lost()), (60, []))
        craft.tell(0, FIVE)
        self.assertEqual((len(craft.kept()), craft.lost()), (60, [(0, 0)]))

    def test_close_makes_room_too(self):
        craft = full_craft(1, 1)
        craft.tell(1, (1,))
        self.assertEqual(marks_of(craft), [(0, 0)])
        self.assertIs(craft.close(1), True)
        self.assertEqual(marks_of(craft), [(1, 0)])
        self.assertEqual(craft.lost(), [(0, 0)])

    def test_close_of_nothing_makes_no_room(self):
        craft = full_craft(1, 1)
        craft.close(1)
        self.assertEqual(state_of(craft), ([(0, 0, "fresh")], [], []))

    def test_sent_ones_that_went_are_not_lost(self):
        craft = full_craft(1, 1)
        craft.beat()
        craft.tell(0, FIVE)
        self.assertEqual(state_of(craft), ([(0, 1, "fresh")], [], []))


class WindowTest(unittest.TestCase):
    def test_begin_and_shut(self):
        craft = Craft(8, 1)
        self.assertIs(craft.shut(), False)
        self.assertIs(craft.begin(), True)
        self.assertIs(craft.begin(), False)
        self.assertIs(craft.shut(), True)
        self.assertIs(craft.shut(), False)
        self.assertIs(craft.begin(), True)

    def test_beat_outside_a_window(self):
        craft = Craft(8, 4)
        craft.tell(0, FIVE)
        self.assertIsNone(craft.beat())
        craft.begin()
        craft.begin()
        craft.shut()
        self.assertIsNone(craft.beat())
        self.assertEqual(craft.kept(), [(0, 0, "fresh")])
        craft.begin()
        self.assertEqual(craft.beat(), (0, 0, 0, (5, 0, 0) + FIVE))

    def test_an_asked_one_waits_outside_a_window(self):
        craft = full_craft(4, 2)
        craft.again([(0, 1)])
        craft.shut()
        self.assertIsNone(craft.beat())
        self.assertEqual(craft.waits(), [(0, 1)])
        craft.begin()
        self.assertEqual(craft.beat()[:2], (0, 1))

    def test_oldest_fresh_one_is_sent_and_kept(self):
        craft = full_craft(4, 3)
        self.assertEqual(craft.beat()[:2], (0, 0))
        self.assertEqual(craft.kept(), [(0, 0, "sent"), (0, 1, "fresh"), (0, 2, "fresh")])
        self.assertEqual(craft.beat()[:2], (0, 1))
        self.assertEqual(craft.beat()[:2], (0, 2))
        self.assertIsNone(craft.beat())
        self.assertEqual(craft.kept(), [(0, 0, "sent"), (0, 1, "sent"), (0, 2, "sent")])

    def test_nothing_to_send(self):
        craft = Craft(8, 4)
        craft.begin()
        craft.tell(0, (1, 2))
        self.assertIsNone(craft.beat())
        self.assertEqual(craft.tell(0, (3,)), 1)


class AgainTest(unittest.TestCase):
    def test_asked_ones_go_ahead_of_fresh_ones(self):
        craft = full_craft(9, 5)
        craft.beat()
        craft.beat()
        self.assertEqual(craft.again([(0, 1), (0, 0)]), [])
        self.assertEqual(craft.waits(), [(0, 1), (0, 0)])
        self.assertEqual(all_beats(craft), [(0, 1), (0, 0), (0, 2), (0, 3), (0, 4)])
        self.assertEqual(craft.waits(), [])

    def test_a_fresh_one_can_be_asked_for(self):
        craft = full_craft(9, 3)
        craft.again([(0, 2)])
        self.assertEqual(craft.kept()[2], (0, 2, "fresh"))
        self.assertEqual(all_beats(craft), [(0, 2), (0, 0), (0, 1)])

    def test_an_asked_one_stays_sent(self):
        craft = full_craft(9, 1)
        craft.beat()
        craft.again([(0, 0)])
        self.assertEqual(state_of(craft), ([(0, 0, "sent")], [], [(0, 0)]))

    def test_none_twice(self):
        craft = full_craft(9, 3)
        self.assertEqual(craft.again([(0, 2), (0, 1), (0, 2)]), [])
        self.assertEqual(craft.again([(0, 0), (0, 2), (0, 1)]), [])
        self.assertEqual(craft.waits(), [(0, 2), (0, 1), (0, 0)])
        self.assertEqual(all_beats(craft), [(0, 2), (0, 1), (0, 0)])

    def test_asked_for_anew_once_sent(self):
        craft = full_craft(9, 2)
        craft.again([(0, 0)])
        craft.beat()
        craft.again([(0, 0)])
        self.assertEqual(all_beats(craft), [(0, 0), (0, 1)])

    def test_others_as_often_as_they_stand(self):
        craft = full_craft(9, 2)
        craft.tell(1, (1,))
        marks = [(0, 2), (0, 1), (3, 9999), (0, 2), (1, 0), (0, 1)]
        self.assertEqual(craft.again(marks), [(0, 2), (3, 9999), (0, 2), (1, 0)])
        self.assertEqual(craft.waits(), [(0, 1)])
        self.assertEqual(craft.again([]), [])

    def test_an_asked_one_that_goes_for_room(self):
        craft = full_craft(2, 2)
        craft.again([(0, 1), (0, 0)])
        craft.tell(0, FIVE)
        self.assertEqual(craft.waits(), [(0, 1)])
        self.assertEqual(craft.lost(), [(0, 0)])
        craft.beat()
        craft.again([(0, 1)])
        craft.tell(0, FIVE)
        self.assertEqual(state_of(craft), ([(0, 2, "fresh"), (0, 3, "fresh")], [(0, 0)], []))
        self.assertEqual(all_beats(craft), [(0, 2), (0, 3)])

    def test_an_asked_one_that_is_known(self):
        craft = full_craft(4, 3)
        craft.again([(0, 2), (0, 1)])
        self.assertEqual(craft.known([(0, 2)]), 1)
        self.assertEqual(craft.waits(), [(0, 1)])
        self.assertEqual(all_beats(craft), [(0, 1), (0, 0)])

    def test_bad_marks(self):
        for mark in NO_MARKS:
            craft = full_craft(4, 3)
            self.assertEqual(at_of(self, BadMarks, craft.again, [mark]), 0)
            self.assertEqual(at_of(self, BadMarks, craft.again, [(0, 0), (0, 2), mark, None]), 2)
            self.assertEqual(craft.waits(), [])


class KnownTest(unittest.TestCase):
    def test_lets_go(self):
        craft = full_craft(9, 4)
        craft.beat()
        self.assertEqual(craft.known([(0, 0), (0, 2), (0, 9999), (1, 0), (0, 4)]), 2)
        self.assertEqual(state_of(craft), ([(0, 1, "fresh"), (0, 3, "fresh")], [], []))
        self.assertEqual(all_beats(craft), [(0, 1), (0, 3)])

    def test_the_same_mark_twice(self):
        craft = full_craft(9, 2)
        self.assertEqual(craft.known([(0, 0), (0, 0)]), 1)
        self.assertEqual(craft.known([(0, 0)]), 0)
        self.assertEqual(craft.known([]), 0)

    def test_makes_room(self):
        craft = full_craft(2, 2)
        craft.known([(0, 1)])
        craft.tell(0, FIVE)
        self.assertEqual(state_of(craft), ([(0, 0, "fresh"), (0, 2, "fresh")], [], []))

    def test_streams_are_told_apart(self):
        craft = full_craft(9, 2)
        craft.tell(1, FIVE)
        self.assertEqual(craft.known([(1, 0)]), 1)
        self.assertEqual(marks_of(craft), [(0, 0), (0, 1)])

    def test_bad_marks(self):
        for mark in NO_MARKS:
            craft = full_craft(4, 3)
            self.assertEqual(at_of(self, BadMarks, craft.known, [mark]), 0)
            self.assertEqual(at_of(self, BadMarks, craft.known, [(0, 0), mark, None]), 1)
            self.assertEqual(len(craft.kept()), 3)


if __name__ == "__main__":
    unittest.main()
