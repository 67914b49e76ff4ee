"""Point [1]: what is handed in stays as it is, and what is told is the asker's."""

import unittest

from skyframes.craft import Craft
from skyframes.errors import SkyError
from skyframes.frames import frames_of, rows_of
from skyframes.ground import Ground
from skyframes.judging import judged
from skyframes.plays import played, read, written
from skyframes.room import least_windows, most_kept, short_at
from skyframes.sky import Sky

FIVE = (1, 2, 3, 4, 5)


def busy_craft():
    """Make a craft that keeps, lost, and is asked for some frames."""
    craft = Craft(8, 4)
    craft.begin()
    for _ in range(6):
        craft.tell(0, FIVE)
    craft.beat()
    craft.again([(0, 4), (0, 2)])
    return craft


def busy_ground():
    """Make a ground that has and wants some frames."""
    ground = Ground(8)
    frames = frames_of(0, [FIVE] * 6, 8)
    for at in (5, 1, 3):
        ground.hear(frames[at])
    ground.never([(0, 0)])
    return ground


def busy_sky():
    """Make a sky that keeps and lost frames, has rows, and letters of all kinds on its roads."""
    sky = Sky(8, 3)
    for step in (
        *[("tell", 0, FIVE)] * 6, ("tell", 2, FIVE), ("begin",), ("beat",), ("lose", "down", 0), ("beat",),
        ("hear", "down", 0), ("beat",), ("ask",), ("ask",), ("hear", "up", 0), ("twice", "down", 1), ("beat",),
    ):
        sky.do(step)
    return sky


def spoil(told):
    """Change a list that was told."""
    told.append("spoilt")
    told[0] = None
    told.reverse()


class HandingTest(unittest.TestCase):
    def told_stays(self, *asks):
        for ask in asks:
            before = ask()
            self.assertGreater(len(before), 0)
            kept = list(before)
            spoil(before)
            after = ask()
            self.assertEqual(after, kept)
            self.assertEqual(ask(), kept)
            self.assertIsNot(after, before)

    def test_what_is_told_is_the_askers(self):
        frames = frames_of(0, [FIVE] * 3, 8)
        craft = busy_craft()
        ground = busy_ground()
        self.told_stays(
            lambda: frames_of(0, [FIVE] * 3, 8),
            lambda: rows_of(frames, 8),
            craft.kept,
            craft.lost,
            craft.waits,
            ground.has,
            ground.wants,
            lambda: ground.rows(0),
        )

    def test_others_are_the_askers(self):
        craft = busy_craft()
        marks = [(3, 3), (0, 5), (3, 3)]
        others = craft.again(marks)
        self.assertEqual(others, [(3, 3), (3, 3)])
        self.assertEqual(craft.waits(), [(0, 4), (0, 2), (0, 5)])
        spoil(others)
        self.assertEqual(marks, [(3, 3), (0, 5), (3, 3)])
        self.assertEqual(craft.again(marks), [(3, 3), (3, 3)])

    def test_frames_of_leaves_and_forgets_its_tellings(self):
        tellings = [FIVE, (6,)]
        frames = frames_of(0, tellings, 8)
        self.assertEqual(tellings, [FIVE, (6,)])
        copy = list(frames)
        spoil(tellings)
        self.assertEqual(frames, copy)

    def test_rows_of_leaves_and_forgets_its_frames(self):
        frames = frames_of(0, [FIVE, (6,), (7,)], 8)[::-1]
        copy = list(frames)
        rows = rows_of(frames, 8)
        self.assertEqual(frames, copy)
        spoil(frames)
        self.assertEqual(rows, [("told", 0, FIVE), ("told", 1, (6,)), ("told", 2, (7,))])

    def test_marks_are_left_and_forgotten(self):
        craft = busy_craft()
        marks = [(0, 5)]
        craft.again(marks)
        self.assertEqual(marks, [(0, 5)])
        spoil(marks)
        self.assertEqual(craft.waits(), [(0, 4), (0, 2), (0, 5)])
        marks = [(0, 5), (0, 2)]
        craft.known(marks)
        self.assertEqual(marks, [(0, 5), (0, 2)])
        spoil(marks)
        self.assertEqual(craft.waits(), [(0, 4)])

    def test_never_leaves_and_forgets_its_marks(self):
        ground = busy_ground()
        marks = [(0, 2), (0, 2)]
        ground.never(marks)
        self.assertEqual(marks, [(0, 2), (0, 2)])
        spoil(marks)
        self.assertEqual(ground.wants(), [(0, 4)])

    def test_marks_told_may_be_handed_in_again(self):
        craft = busy_craft()
        self.assertEqual(craft.again(craft.waits()), [])
        self.assertEqual(craft.known(craft.waits()), 2)
        self.assertEqual(craft.waits(), [])

    def test_what_is_refused_changes_nothing(self):
        craft = busy_craft()
        before = (craft.kept(), craft.lost(), craft.waits())
        for refused in (
            lambda: craft.tell(4, FIVE),
            lambda: craft.tell(0, FIVE + (256,)),
            lambda: craft.close(-1),
            lambda: craft.known([(0, 4), (0, -1)]),
            lambda: craft.again([(0, 5), (4, 0)]),
        ):
            self.assertRaises(SkyError, refused)
            self.assertEqual((craft.kept(), craft.lost(), craft.waits()), before)
        self.assertEqual(craft.tell(0, FIVE), 6)
        ground = busy_ground()
        before = (ground.has(), ground.wants(), ground.rows(0))
        for refused in (
            lambda: ground.hear((0, 2, 0, FIVE)),
            lambda: ground.never([(0, 2), (0, 10000)]),
            lambda: ground.rows(4),
        ):
            self.assertRaises(SkyError, refused)
            self.assertEqual((ground.has(), ground.wants(), ground.rows(0)), before)

    def test_objects_are_apart(self):
        one, other = busy_craft(), Craft(8, 4)
        self.assertEqual((other.kept(), other.lost(), other.waits()), ([], [], []))
        self.assertEqual((other.tell(0, FIVE), one.tell(0, FIVE)), (0, 6))
        busy_ground()
        self.assertEqual((Ground(8).has(), Ground(8).wants()), ([], []))

    def test_asking_changes_nothing(self):
        craft = busy_craft()
        for _ in range(2):
            craft.kept(), craft.lost(), craft.waits()
        self.assertEqual([craft.beat()[1] for _ in range(4)], [4, 2, 3, 5])
        ground = busy_ground()
        for _ in range(2):
            ground.has(), ground.wants(), ground.rows(0)
        self.assertIs(ground.hear(frames_of(0, [FIVE] * 6, 8)[2]), True)


class SkyHandingTest(unittest.TestCase):
    def spoil_shown(self, shown):
        kept, lost, rows, _, _ = shown
        for told in (kept, lost, *rows, rows):
            told.append("spoilt")
            told.reverse()

    def test_shown_and_its_inner_lists_are_the_askers(self):
        sky = busy_sky()
        due = sky.shown()
        self.assertTrue(all(due[:2]) and due[2][0] and due[3] == 3 and due[4] == 1)
        self.assertIsInstance(due, tuple)
        self.spoil_shown(sky.shown())
        self.assertEqual(sky.shown(), due)
        sky.do(("hear", "down", 0))
        sky.do(("beat",))
        other = busy_sky()
        other.do(("hear", "down", 0))
        other.do(("beat",))
        self.assertEqual((sky.shown(), sky.log()), (other.shown(), other.log()))

    def test_a_log_is_the_askers(self):
        sky = busy_sky()
        due = sky.log()
        spoil(sky.log())
        self.assertEqual(sky.log(), due)
        sky.do(("hear", "down", 0))
        self.assertEqual(sky.log()[:-1], due)
        self.assertEqual(due, busy_sky().log())

    def test_a_log_is_of_tuples(self):
        for entry in busy_sky().log():
            self.assertIs(type(entry), tuple)
            for part in entry:
                self.assertIn(type(part), (str, int, tuple))
                self.assertNotIn(list, [type(inner) for inner in part] if type(part) is tuple else [])

    def test_asking_changes_nothing(self):
        sky, other = busy_sky(), busy_sky()
        for _ in range(3):
            sky.shown(), sky.log()
        for step in (("beat",), ("hear", "up", 0), ("beat",), ("settle",)):
            self.assertEqual(sky.do(step), other.do(step))
        self.assertEqual((sky.shown(), sky.log()), (other.shown(), other.log()))

    def test_a_letter_stays_as_it_was_laid(self):
        sky = busy_sky()
        sky.do(("ask",))
        self.spoil_shown(sky.shown())
        spoil(sky.log())
        sky.do(("settle",))
        self.assertEqual(sky.shown()[0], [])
        self.assertIsNone(judged(8, sky.log()))

    def test_judged_leaves_its_log(self):
        log = busy_sky().log()
        copy = list(log)
        self.assertIsNone(judged(8, log))
        self.assertEqual(log, copy)
        self.assertEqual(judged(8, log[1:]), judged(8, copy[1:]))
        self.assertIsNone(judged(8, log))

    def test_plays_leave_their_steps(self):
        steps = [("tell", 0, FIVE), ("close", 4), ("begin",), ("beat",), ("settle",)]
        copy = list(steps)
        told, sky = played(8, 5, steps)
        text = written(steps)
        self.assertEqual(steps, copy)
        before = (sky.shown(), sky.log())
        spoil(steps)
        spoil(told)
        self.assertEqual((sky.shown(), sky.log()), before)
        self.assertEqual(written(copy), text)
        found = read(text)
        spoil(found)
        self.assertEqual(read(text), copy)
        self.assertEqual(played(8, 5, copy)[0], [0, "no", True, (0, 0), None])

    def test_plays_are_apart(self):
        steps = [("tell", 0, FIVE), ("begin",), ("beat",)]
        _, one = played(8, 5, steps)
        _, other = played(8, 5, steps)
        before = (other.shown(), other.log())
        one.do(("settle",))
        self.assertEqual((other.shown(), other.log()), before)

    def test_plans_are_told_the_same_again(self):
        makes, windows = (2, 0, 3, 1), ((0, 1), (2, 3))
        for _ in range(2):
            self.assertEqual(most_kept(makes, windows), 4)
            self.assertEqual(short_at(makes, windows, 3), 2)
            self.assertEqual(least_windows(makes, 4), ((1, 3),))


if __name__ == "__main__":
    unittest.main()
