"""Point [1]: what is handed in stays as it is, and what is told is the asker's."""

import unittest

from skyframes.craft import Craft
from skyframes.errors import SkyError
from skyframes.frames import frames_of, rows_of
from skyframes.ground import Ground

FIVE = (1, 2, 3, 4, 5)


def busy_craft():
    """Make a craft that keeps, lost, and is asked for some frames."""
    craft = Craft(8, 4)
    craft.begin()
    for _ in range(6):
        craft.tell(0, FIVE)
    craft.beat()
    craft.again([(0, 4), (0, 2)])
    return craft


def busy_ground():
    """Make a ground that has and wants some frames."""
    ground = Ground(8)
    frames = frames_of(0, [FIVE] * 6, 8)
    for at in (5, 1, 3):
        ground.hear(frames[at])
    ground.never([(0, 0)])
    return ground


def spoil(told):
    """Change a list that was told."""
    told.append("spoilt")
    told[0] = None
    told.reverse()


class HandingTest(unittest.TestCase):
    def told_stays(self, *asks):
        for ask in asks:
            before = ask()
            self.assertGreater(len(before), 0)
            kept = list(before)
            spoil(before)
            after = ask()
            self.assertEqual(after, kept)
            self.assertEqual(ask(), kept)
            self.assertIsNot(after, before)

    def test_what_is_told_is_the_askers(self):
        frames = frames_of(0, [FIVE] * 3, 8)
        craft = busy_craft()
        ground = busy_ground()
        self.told_stays(
            lambda: frames_of(0, [FIVE] * 3, 8),
            lambda: rows_of(frames, 8),
            craft.kept,
            craft.lost,
            craft.waits,
            ground.has,
            ground.wants,
            lambda: ground.rows(0),
        )

    def test_others_are_the_askers(self):
        craft = busy_craft()
        marks = [(3, 3), (0, 5), (3, 3)]
        others = craft.again(marks)
        self.assertEqual(others, [(3, 3), (3, 3)])
        self.assertEqual(craft.waits(), [(0, 4), (0, 2), (0, 5)])
        spoil(others)
        self.assertEqual(marks, [(3, 3), (0, 5), (3, 3)])
        self.assertEqual(craft.again(marks), [(3, 3), (3, 3)])

    def test_frames_of_leaves_and_forgets_its_tellings(self):
        tellings = [FIVE, (6,)]
        frames = frames_of(0, tellings, 8)
        self.assertEqual(tellings, [FIVE, (6,)])
        copy = list(frames)
        spoil(tellings)
        self.assertEqual(frames, copy)

    def test_rows_of_leaves_and_forgets_its_frames(self):
        frames = frames_of(0, [FIVE, (6,), (7,)], 8)[::-1]
        copy = list(frames)
        rows = rows_of(frames, 8)
        self.assertEqual(frames, copy)
        spoil(frames)
        self.assertEqual(rows, [("told", 0, FIVE), ("told", 1, (6,)), ("told", 2, (7,))])

    def test_marks_are_left_and_forgotten(self):
        craft = busy_craft()
        marks = [(0, 5)]
        craft.again(marks)
        self.assertEqual(marks, [(0, 5)])
        spoil(marks)
        self.assertEqual(craft.waits(), [(0, 4), (0, 2), (0, 5)])
        marks = [(0, 5), (0, 2)]
        craft.known(marks)
        self.assertEqual(marks, [(0, 5), (0, 2)])
        spoil(marks)
        self.assertEqual(craft.waits(), [(0, 4)])

    def test_never_leaves_and_forgets_its_marks(self):
        ground = busy_ground()
        marks = [(0, 2), (0, 2)]
        ground.never(marks)
        self.assertEqual(marks, [(0, 2), (0, 2)])
        spoil(marks)
        self.assertEqual(ground.wants(), [(0, 4)])

    def test_marks_told_may_be_handed_in_again(self):
        craft = busy_craft()
        self.assertEqual(craft.again(craft.waits()), [])
        self.assertEqual(craft.known(craft.waits()), 2)
        self.assertEqual(craft.waits(), [])

    def test_what_is_refused_changes_nothing(self):
        craft = busy_craft()
        before = (craft.kept(), craft.lost(), craft.waits())
        for refused in (
            lambda: craft.tell(4, FIVE),
            lambda: craft.tell(0, FIVE + (256,)),
            lambda: craft.close(-1),
            lambda: craft.known([(0, 4), (0, -1)]),
            lambda: craft.again([(0, 5), (4, 0)]),
        ):
            self.assertRaises(SkyError, refused)
            self.assertEqual((craft.kept(), craft.lost(), craft.waits()), before)
        self.assertEqual(craft.tell(0, FIVE), 6)
        ground = busy_ground()
        before = (ground.has(), ground.wants(), ground.rows(0))
        for refused in (
            lambda: ground.hear((0, 2, 0, FIVE)),
            lambda: ground.never([(0, 2), (0, 10000)]),
            lambda: ground.rows(4),
        ):
            self.assertRaises(SkyError, refused)
            self.assertEqual((ground.has(), ground.wants(), ground.rows(0)), before)

    def test_objects_are_apart(self):
        one, other = busy_craft(), Craft(8, 4)
        self.assertEqual((other.kept(), other.lost(), other.waits()), ([], [], []))
        self.assertEqual((other.tell(0, FIVE), one.tell(0, FIVE)), (0, 6))
        busy_ground()
        self.assertEqual((Ground(8).has(), Ground(8).wants()), ([], []))

    def test_asking_changes_nothing(self):
        craft = busy_craft()
        for _ in range(2):
            craft.kept(), craft.lost(), craft.waits()
        self.assertEqual([craft.beat()[1] for _ in range(4)], [4, 2, 3, 5])
        ground = busy_ground()
        for _ in range(2):
            ground.has(), ground.wants(), ground.rows(0)
        self.assertIs(ground.hear(frames_of(0, [FIVE] * 6, 8)[2]), True)


if __name__ == "__main__":
    unittest.main()
