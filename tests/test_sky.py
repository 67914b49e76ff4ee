"""Points [9] and [11]: the steps under the sky, one by one, and the log of each."""

import unittest

from skyframes.errors import BadData, BadRoom, BadSize, BadStream, SkyError
from skyframes.sky import Sky
from tests.helping import chance_of, layout, some_telling
from tests.model import Model, some_step

FIVE = (1, 2, 3, 4, 5)
# What a sky of size 8 makes of tellings of FIVE in stream 0: a frame of each.
FRAMES = layout(0, [FIVE] * 20, 8)
NO_ROWS = [[], [], [], []]


def fives(*counts):
    """Tell the rows of stream 0 if just these of FRAMES came."""
    rows = []
    low = 0
    for count in counts:
        if count > low:
            rows.append(("gap", low, count - 1))
        rows.append(("told", count, FIVE))
        low = count + 1
    return rows


def sky_with(*steps, room=60):
    """Make a sky of size 8 behind some steps."""
    sky = Sky(8, room)
    for step in steps:
        sky.do(step)
    return sky


def sky_of(many, *steps, room=60):
    """Make a sky with so many tellings of one frame each, a window open, behind some steps."""
    return sky_with(*[("tell", 0, FIVE)] * many, ("begin",), *steps, room=room)


def log_behind(sky, step):
    """Do a step that tells nothing; tell what the log got by it."""
    ahead = sky.log()
    assert sky.do(step) is None
    log = sky.log()
    assert log[:len(ahead)] == ahead
    return log[len(ahead):]


class SkyMadeTest(unittest.TestCase):
    def test_nothing_is_there(self):
        for size, room in ((8, 1), (24, 60)):
            sky = Sky(size, room)
            self.assertEqual(sky.shown(), ([], [], NO_ROWS, 0, 0))
            self.assertEqual(sky.log(), [])

    def test_wrong_sizes_and_rooms(self):
        for size in (7, 25, True, None):
            self.assertRaises(BadSize, Sky, size, 5)
            self.assertRaises(BadSize, Sky, size, 0)
        for room in (0, 61, True, None):
            self.assertRaises(BadRoom, Sky, 8, room)


class AboardStepsTest(unittest.TestCase):
    def test_tell(self):
        sky = Sky(8, 5)
        self.assertEqual(sky.do(("tell", 0, FIVE)), 0)
        self.assertEqual(sky.do(("tell", 0, (6,))), 1)
        self.assertEqual(sky.do(("tell", 3, (7,))), 0)
        self.assertEqual(sky.log(), [("tell", 0, FIVE), ("tell", 0, (6,)), ("tell", 3, (7,))])
        self.assertEqual(sky.shown(), ([(0, 0, "fresh")], [], NO_ROWS, 0, 0))

    def test_close(self):
        sky = sky_with(("tell", 0, FIVE), ("tell", 2, (6,)))
        ahead = sky.log()
        for stream in (0, 1, 3):
            self.assertIs(sky.do(("close", stream)), False)
            self.assertEqual(sky.log(), ahead)
        self.assertIs(sky.do(("close", 2)), True)
        self.assertIs(sky.do(("close", 2)), False)
        self.assertEqual(sky.log(), ahead + [("close", 2)])
        self.assertEqual(sky.shown()[0], [(0, 0, "fresh"), (2, 0, "fresh")])

    def test_begin_and_shut(self):
        sky = Sky(8, 5)
        for word, told in (
            ("shut", False), ("begin", True), ("begin", False), ("shut", True), ("shut", False), ("begin", True)
        ):
            self.assertIs(sky.do((word,)), told)
        self.assertEqual(sky.log(), [])

    def test_beat(self):
        sky = sky_with(("tell", 0, FIVE), ("tell", 2, (6,)), ("close", 2))
        ahead = sky.log()
        self.assertIsNone(sky.do(("beat",)))
        self.assertEqual((sky.log(), sky.shown()[3]), (ahead, 0))
        sky.do(("begin",))
        self.assertEqual(sky.do(("beat",)), (0, 0))
        self.assertEqual(sky.log(), ahead + [("sent", FRAMES[0])])
        self.assertEqual(sky.shown(), ([(0, 0, "sent"), (2, 0, "fresh")], [], NO_ROWS, 1, 0))
        self.assertEqual(sky.do(("beat",)), (2, 0))
        log = sky.log()
        self.assertEqual(log[-1], ("sent", (2, 0, 0, (1, 0, 0, 6, 0, 0, 0, 0))))
        self.assertIsNone(sky.do(("beat",)))
        self.assertEqual((sky.log(), sky.shown()[3:]), (log, (2, 0)))

    def test_frames_go_for_want_of_room(self):
        sky = sky_of(3, ("beat",), ("beat",), ("tell", 0, FIVE), ("tell", 0, FIVE), room=2)
        self.assertEqual(sky.shown(), ([(0, 3, "fresh"), (0, 4, "fresh")], [(0, 0)], NO_ROWS, 2, 0))

    def test_refused_steps_change_nothing(self):
        sky = sky_of(3, ("tell", 1, (6,)), ("beat",), ("ask",))
        before = (sky.shown(), sky.log())
        for error, step in (
            (BadStream, ("tell", 4, FIVE)),
            (BadStream, ("tell", -1, ())),
            (BadStream, ("tell", True, FIVE)),
            (BadData, ("tell", 0, ())),
            (BadData, ("tell", 0, (0,) * 21)),
            (BadData, ("tell", 1, (1, 256))),
            (BadData, ("tell", 1, (-1,))),
            (BadData, ("tell", 1, (False,))),
            (BadData, ("tell", 1, [1])),
            (BadStream, ("close", 4)),
            (BadStream, ("close", -1)),
            (BadStream, ("close", True)),
        ):
            self.assertRaises(error, sky.do, step)
            self.assertEqual((sky.shown(), sky.log()), before)
        self.assertEqual(sky.do(("tell", 0, FIVE)), 3)
        self.assertEqual(sky.do(("tell", 1, FIVE)), 1)


class LettersDownTest(unittest.TestCase):
    def test_hear(self):
        sky = sky_of(3, ("beat",), ("beat",), ("beat",))
        self.assertEqual(log_behind(sky, ("hear", "down", 1)), [("came", FRAMES[1])])
        self.assertEqual(sky.shown()[2:], ([fives(1), [], [], []], 2, 0))
        self.assertEqual(log_behind(sky, ("hear", "down", 1)), [("came", FRAMES[2])])
        self.assertEqual(log_behind(sky, ("hear", "down", 0)), [("came", FRAMES[0])])
        self.assertEqual(sky.shown()[2:], ([fives(0, 1, 2), [], [], []], 0, 0))

    def test_lose(self):
        sky = sky_of(3, ("beat",), ("beat",), ("beat",))
        self.assertEqual(log_behind(sky, ("lose", "down", 1)), [])
        self.assertEqual(sky.shown()[2:], (NO_ROWS, 2, 0))
        self.assertEqual(log_behind(sky, ("hear", "down", 1)), [("came", FRAMES[2])])
        self.assertEqual(log_behind(sky, ("lose", "down", 0)), [])
        self.assertEqual(sky.shown()[2:], ([fives(2), [], [], []], 0, 0))

    def test_twice(self):
        sky = sky_of(2, ("beat",), ("beat",))
        for _ in range(2):
            self.assertEqual(log_behind(sky, ("twice", "down", 1)), [("came", FRAMES[1])])
            self.assertEqual(sky.shown()[2:], ([fives(1), [], [], []], 2, 0))
        self.assertEqual(log_behind(sky, ("hear", "down", 1)), [("came", FRAMES[1])])
        self.assertEqual(sky.shown()[2:], ([fives(1), [], [], []], 1, 0))

    def test_a_frame_sent_again_comes_twice(self):
        sky = sky_of(2, ("beat",), ("beat",), ("hear", "down", 1), ("ask",), ("hear", "up", 0))
        self.assertEqual(sky.do(("beat",)), (0, 0))
        self.assertEqual(sky.shown(), ([(0, 0, "sent")], [], [fives(1), [], [], []], 2, 0))
        for _ in range(2):
            self.assertEqual(log_behind(sky, ("hear", "down", 0)), [("came", FRAMES[0])])
        self.assertEqual(sky.shown()[2][0], fives(0, 1))

    def test_no_such_letter(self):
        empty = sky_of(2)
        some = sky_of(2, ("beat",), ("beat",), ("ask",))
        for sky, down, up in ((empty, 0, 0), (some, 2, 1)):
            before = (sky.shown(), sky.log())
            for word in ("hear", "lose", "twice"):
                for step in (
                    (word, "down", down), (word, "down", down + 1), (word, "down", 9999), (word, "down", -1),
                    (word, "up", up), (word, "up", up + 1), (word, "up", 9999), (word, "up", -1),
                ):
                    self.assertIsNone(sky.do(step))
                    self.assertEqual((sky.shown(), sky.log()), before, step)

    def test_the_roads_are_apart(self):
        sky = sky_of(1, ("beat",), ("ask",), ("ask",))
        self.assertEqual(log_behind(sky, ("lose", "up", 0)), [])
        self.assertEqual(sky.shown()[3:], (1, 1))
        self.assertEqual(log_behind(sky, ("hear", "down", 0)), [("came", FRAMES[0])])
        self.assertEqual(sky.shown()[3:], (0, 1))


class AsksTest(unittest.TestCase):
    def test_ask_lays_a_letter(self):
        sky = Sky(8, 5)
        self.assertEqual(log_behind(sky, ("ask",)), [])
        self.assertEqual(sky.shown(), ([], [], NO_ROWS, 0, 1))
        # It wants nothing: no letter is laid down.
        self.assertEqual(log_behind(sky, ("hear", "up", 0)), [])
        self.assertEqual(sky.shown(), ([], [], NO_ROWS, 0, 0))

    def test_what_the_ground_has_is_known(self):
        sky = sky_of(3, ("beat",), ("beat",), ("hear", "down", 0), ("ask",))
        self.assertEqual(len(sky.shown()[0]), 3)
        self.assertEqual(log_behind(sky, ("hear", "up", 0)), [])
        self.assertEqual(sky.shown()[0], [(0, 1, "sent"), (0, 2, "fresh")])
        self.assertEqual(sky.shown()[3:], (1, 0))

    def test_what_it_wants_is_sent_again(self):
        sky = sky_of(5, *[("beat",)] * 4, ("hear", "down", 3), ("hear", "down", 1), ("ask",), ("hear", "up", 0))
        self.assertEqual(sky.shown()[3:], (2, 0))
        self.assertEqual([sky.do(("beat",)) for _ in range(4)], [(0, 0), (0, 2), (0, 4), None])

    def test_an_ask_tells_of_its_own_time(self):
        sky = sky_of(4, *[("beat",)] * 4, ("hear", "down", 3), ("ask",), *[("hear", "down", 0)] * 3)
        self.assertEqual(log_behind(sky, ("hear", "up", 0)), [])
        self.assertEqual([row[:2] for row in sky.shown()[0]], [(0, 0), (0, 1), (0, 2)])
        self.assertEqual([sky.do(("beat",)) for _ in range(4)], [(0, 0), (0, 1), (0, 2), None])

    def test_a_late_ask_wants_what_went(self):
        # The first ask wants (0, 0) and (0, 1); the second one, heard ahead of it, has (0, 0).
        sky = sky_of(3, *[("beat",)] * 3, ("hear", "down", 2), ("ask",), ("hear", "down", 0), ("ask",))
        self.assertEqual(log_behind(sky, ("hear", "up", 1)), [])
        self.assertEqual(sky.shown()[0], [(0, 1, "sent")])
        self.assertEqual(log_behind(sky, ("hear", "up", 0)), [])
        self.assertEqual(sky.shown()[3:], (2, 0))
        self.assertEqual(log_behind(sky, ("hear", "down", 1)), [("never", ((0, 0),))])
        self.assertEqual([sky.do(("beat",)) for _ in range(2)], [(0, 1), None])
        sky.do(("settle",))
        self.assertEqual(sky.shown(), ([], [], [fives(0, 1, 2), [], [], []], 0, 0))

    def test_an_ask_heard_twice(self):
        sky = sky_of(3, *[("beat",)] * 3, ("hear", "down", 2), ("ask",))
        for _ in range(2):
            self.assertEqual(log_behind(sky, ("twice", "up", 0)), [])
            self.assertEqual(sky.shown(), (
                [(0, 0, "sent"), (0, 1, "sent")], [], [fives(2), [], [], []], 2, 1
            ))
        # Asked for again behind being sent again.
        self.assertEqual([sky.do(("beat",)) for _ in range(3)], [(0, 0), (0, 1), None])
        sky.do(("hear", "up", 0))
        self.assertEqual([sky.do(("beat",)) for _ in range(3)], [(0, 0), (0, 1), None])

    def test_an_ask_lost(self):
        sky = sky_of(3, *[("beat",)] * 3, ("hear", "down", 2), ("ask",), ("lose", "up", 0))
        self.assertEqual((len(sky.shown()[0]), sky.shown()[3:]), (3, (2, 0)))
        self.assertIsNone(sky.do(("beat",)))

    def test_what_is_not_kept_never_comes_in_one_letter(self):
        sky = sky_of(8, *[("beat",)] * 2, ("lose", "down", 0), ("hear", "down", 0), room=2)
        self.assertEqual(sky.shown()[0], [(0, 6, "sent"), (0, 7, "sent")])
        sky.do(("ask",))
        self.assertEqual(log_behind(sky, ("twice", "up", 0)), [])
        gone = tuple((0, count) for count in range(6))
        self.assertEqual(sky.shown()[3:], (1, 1))
        # (0, 7) is known now; (0, 6) was wanted and is asked for.
        self.assertEqual(sky.shown()[0], [(0, 6, "sent")])
        sky.do(("hear", "up", 0))
        self.assertEqual(sky.shown()[3:], (2, 0))
        self.assertEqual(log_behind(sky, ("twice", "down", 0)), [("never", gone)])
        self.assertEqual(log_behind(sky, ("hear", "down", 1)), [("never", gone)])
        self.assertEqual(sky.shown()[3:], (1, 0))
        self.assertEqual(log_behind(sky, ("lose", "down", 0)), [])
        # They aren't wanted any more.
        sky.do(("ask",))
        sky.do(("hear", "up", 0))
        self.assertEqual(sky.shown()[3:], (0, 0))

    def test_a_never_lost_is_told_at_the_next_ask(self):
        sky = sky_of(3, ("beat",), ("hear", "down", 0), ("ask",), ("hear", "up", 0), room=1)
        gone = [("never", ((0, 0), (0, 1)))]
        self.assertEqual(log_behind(sky, ("lose", "down", 0)), [])
        sky.do(("ask",))
        sky.do(("hear", "up", 0))
        self.assertEqual(log_behind(sky, ("hear", "down", 0)), gone)

    def test_what_never_comes_may_come(self):
        # Sent, then gone for want of room, then told as never to come while it is on its way.
        sky = sky_of(1, ("beat",), ("tell", 0, FIVE), ("beat",), ("hear", "down", 1), ("ask",), room=1)
        sky.do(("hear", "up", 0))
        self.assertEqual(log_behind(sky, ("hear", "down", 1)), [("never", ((0, 0),))])
        self.assertEqual(log_behind(sky, ("hear", "down", 0)), [("came", FRAMES[0])])
        self.assertEqual(sky.shown(), ([], [], [fives(0, 1), [], [], []], 0, 0))

    def test_a_never_of_several_streams(self):
        steps = [("tell", stream, FIVE) for stream in (2, 0, 2, 0)]
        sky = sky_with(*steps, ("begin",), ("beat",), ("beat",), room=2)
        for step in (("hear", "down", 0), ("hear", "down", 0), ("ask",), ("hear", "up", 0)):
            sky.do(step)
        self.assertEqual(log_behind(sky, ("hear", "down", 0)), [("never", ((0, 0), (2, 0)))])


class ManySkiesTest(unittest.TestCase):
    def test_against_the_model(self):
        for seed in range(60):
            chance = chance_of(seed)
            size, room = chance.choice([8, 9, 24]), chance.choice([1, 2, 5, 12, 60])
            tellings = [FIVE, (0,) * 20] + [some_telling(chance) for _ in range(4)]
            sky, model = Sky(size, room), Model(size, room)
            for _ in range(60):
                step = some_step(chance, tellings)
                told, due = sky.do(step), model.do(step)
                self.assertEqual((told, type(told)), (due, type(due)), step)
                self.assertEqual(sky.shown(), model.shown(), step)
                self.assertEqual(sky.log(), model.log, step)

    def test_two_side_by_side(self):
        one, other = Sky(8, 2), Sky(8, 5)
        steps = [("begin",), ("tell", 0, FIVE), ("beat",), ("twice", "down", 0), ("ask",), ("close", 0)]
        for step in steps:
            one.do(step)
        self.assertEqual((other.shown(), other.log()), (Sky(8, 5).shown(), []))
        ahead = (one.shown(), one.log())
        other.do(("tell", 0, (9,) * 5))
        other.do(("settle",))
        self.assertEqual((one.shown(), one.log()), ahead)
        self.assertEqual(other.shown()[2][0], [("told", 0, (9,) * 5)])

    def test_a_refusal_is_one_of_its_own(self):
        self.assertRaises(SkyError, Sky(8, 2).do, ("tell", 9, FIVE))


if __name__ == "__main__":
    unittest.main()
