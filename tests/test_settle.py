"""Point [10]: settle, and what is shown behind it."""

import unittest

from skyframes.sky import Sky
from tests.helping import CLOSE, chance_of, layout, rows_by_hand, some_telling
from tests.model import Model, some_step
from tests.test_sky import FIVE, FRAMES, NO_ROWS, fives, sky_of, sky_with

SETTLE = ("settle",)


def settled_log(sky):
    """Settle a sky; tell what its log got by it."""
    ahead = sky.log()
    assert sky.do(SETTLE) is None
    assert sky.log()[:len(ahead)] == ahead
    return sky.log()[len(ahead):]


def both(*frames):
    """Tell the entries of frames that are each sent and come at once."""
    return [(word, frame) for frame in frames for word in ("sent", "came")]


class SettleTest(unittest.TestCase):
    def window_is_open(self, sky):
        self.assertIs(sky.do(("begin",)), False)

    def test_a_fresh_sky(self):
        sky = Sky(8, 5)
        self.assertEqual(settled_log(sky), [])
        self.assertEqual(sky.shown(), ([], [], NO_ROWS, 0, 0))
        self.window_is_open(sky)

    def test_all_streams_are_closed_by_numbers(self):
        steps = [("tell", 3, (6,)), ("tell", 0, (7,)), ("tell", 1, FIVE), ("tell", 2, (8,))]
        sky = sky_with(*steps)
        log = settled_log(sky)
        self.assertEqual(log[:3], [("close", 0), ("close", 2), ("close", 3)])
        self.assertEqual([row[1][:2] for row in log[3:]], [
            mark for mark in ((1, 0), (0, 0), (2, 0), (3, 0)) for _ in range(2)
        ])
        rows = [[("told", 0, telling)] for telling in ((7,), FIVE, (8,), (6,))]
        self.assertEqual(sky.shown(), ([], [], rows, 0, 0))
        for stream in range(4):
            self.assertIs(sky.do(("close", stream)), False)

    def test_with_the_window_shut_and_open(self):
        for steps in ([], [("begin",)], [("begin",), ("shut",)]):
            sky = sky_with(("tell", 0, FIVE), *steps)
            self.assertEqual(settled_log(sky), both(FRAMES[0]))
            self.assertEqual(sky.shown(), ([], [], [fives(0), [], [], []], 0, 0))
            self.window_is_open(sky)

    def test_letters_on_both_roads(self):
        # The ask on the road up wants (0, 0), which is lost, and is heard behind the letters down.
        sky = sky_of(
            5, *[("beat",)] * 3, ("lose", "down", 0), ("hear", "down", 1), ("ask",), ("beat",)
        )
        self.assertEqual(sky.shown()[3:], (2, 1))
        log = settled_log(sky)
        self.assertEqual(log, [("came", FRAMES[1]), ("came", FRAMES[3]), *both(FRAMES[0], FRAMES[1], FRAMES[4])])
        self.assertEqual(sky.shown(), ([], [], [fives(0, 1, 2, 3, 4), [], [], []], 0, 0))

    def test_what_asks_on_the_road_lay_is_heard_ahead_of_the_beats(self):
        sky = sky_of(3, ("beat",), ("hear", "down", 0), ("ask",), ("ask",), ("tell", 0, FIVE), room=1)
        gone = ("never", ((0, 0), (0, 1)))
        self.assertEqual(settled_log(sky), [gone, gone, *both(FRAMES[3])])
        self.assertEqual(sky.shown()[0], [])

    def test_a_never_on_the_road_down(self):
        sky = sky_of(3, ("beat",), ("hear", "down", 0), ("ask",), ("hear", "up", 0), room=1)
        self.assertEqual(settled_log(sky), [("never", ((0, 0), (0, 1)))])

    def test_nothing_is_kept_but_the_ground_wants(self):
        # What was told as never to come was lost on its way.
        sky = sky_of(2, ("beat",), ("hear", "down", 0), ("ask",), ("hear", "up", 0), ("lose", "down", 0), room=1)
        self.assertEqual(sky.shown(), ([], [(0, 0)], [fives(1), [], [], []], 0, 0))
        self.assertEqual(settled_log(sky), [("never", ((0, 0),))])
        self.assertEqual(settled_log(sky), [])

    def test_frames_lost_on_the_way_are_asked_for(self):
        sky = sky_of(4, *[("beat",)] * 4, *[("lose", "down", 0)] * 3, ("hear", "down", 0))
        self.assertEqual(settled_log(sky), both(*FRAMES[:3]))
        self.assertEqual(sky.shown(), ([], [], [fives(0, 1, 2, 3), [], [], []], 0, 0))

    def test_the_last_frames_lost_are_asked_for_too(self):
        # None came behind them, so the ground can't know of them.
        sky = sky_of(3, *[("beat",)] * 3, *[("lose", "down", 0)] * 3)
        self.assertEqual(settled_log(sky), both(*FRAMES[:3]))
        self.assertEqual(sky.shown(), ([], [], [fives(0, 1, 2), [], [], []], 0, 0))

    def test_what_is_wanted_goes_ahead_of_what_is_kept(self):
        # (0, 1) is wanted; (0, 0) came, but the craft doesn't know it yet; (1, 0) was lost.
        sky = sky_with(
            ("tell", 1, FIVE), ("begin",), ("beat",), ("lose", "down", 0), *[("tell", 0, FIVE)] * 3,
            ("beat",), ("hear", "down", 0), ("beat",), ("lose", "down", 0), ("beat",), ("hear", "down", 0),
        )
        last = (1, 0, 0, FRAMES[0][3])
        self.assertEqual(settled_log(sky), both(FRAMES[1], last))
        self.assertEqual(sky.shown(), ([], [], [fives(0, 1, 2), fives(0), [], []], 0, 0))

    def test_what_waits_goes_ahead_of_what_is_fresh(self):
        sky = sky_of(
            3, ("beat",), ("beat",), ("lose", "down", 0), ("hear", "down", 0), ("ask",), ("hear", "up", 0)
        )
        self.assertEqual(settled_log(sky), both(FRAMES[0], FRAMES[2]))

    def test_frames_that_went(self):
        sky = sky_of(6, room=2)
        gone = tuple((0, count) for count in range(4))
        self.assertEqual(settled_log(sky), both(FRAMES[4], FRAMES[5]) + [("never", gone)])
        self.assertEqual(sky.shown(), ([], list(gone), [fives(4, 5), [], [], []], 0, 0))

    def test_frames_that_went_behind_their_coming(self):
        sky = sky_of(2, ("beat",), ("beat",), *[("tell", 0, FIVE)] * 2, room=2)
        log = settled_log(sky)
        self.assertEqual(log, [("came", FRAMES[0]), ("came", FRAMES[1]), *both(FRAMES[2], FRAMES[3])])
        self.assertEqual(sky.shown(), ([], [], [fives(0, 1, 2, 3), [], [], []], 0, 0))

    def test_closing_may_cost_a_frame(self):
        sky = sky_of(1, ("tell", 1, (6,)), room=1)
        log = settled_log(sky)
        self.assertEqual(log, [("close", 1), *both((1, 0, 0, (1, 0, 0, 6, 0, 0, 0, 0)))])
        self.assertEqual(sky.shown(), ([], [(0, 0)], [[], [("told", 0, (6,))], [], []], 0, 0))

    def test_what_was_lost_is_wanted_only_behind_a_second_round(self):
        # (0, 0) went, (0, 1) was lost on its way: only when that comes at last (0, 0) is wanted.
        sky = sky_of(1, ("tell", 0, FIVE), ("beat",), ("lose", "down", 0), room=1)
        self.assertEqual(settled_log(sky), both(FRAMES[1]) + [("never", ((0, 0),))])
        self.assertEqual(sky.shown(), ([], [(0, 0)], [fives(1), [], [], []], 0, 0))

    def test_twice_in_a_row(self):
        sky = sky_of(6, ("beat",), ("lose", "down", 0), ("tell", 2, (6,)), room=3)
        settled_log(sky)
        before = (sky.shown(), sky.log())
        self.assertEqual(settled_log(sky), [])
        self.assertEqual((sky.shown(), sky.log()), before)
        self.window_is_open(sky)

    def test_it_goes_on_behind(self):
        sky = sky_of(2, SETTLE, ("tell", 0, FIVE), ("tell", 0, (6,)))
        self.assertEqual(sky.shown()[0], [(0, 2, "fresh")])
        self.assertEqual(sky.do(("beat",)), (0, 2))
        sky.do(SETTLE)
        self.assertEqual(sky.shown()[2][0], fives(0, 1, 2) + [("told", 3, (6,))])


class ManySettledTest(unittest.TestCase):
    def test_against_the_model(self):
        for seed in range(150):
            chance = chance_of(seed)
            size, room = chance.choice([8, 9, 24]), chance.choice([1, 2, 5, 12, 60])
            tellings = [FIVE, (0,) * 20] + [some_telling(chance) for _ in range(4)]
            sky, model = Sky(size, room), Model(size, room)
            for many in (25, 10):
                for _ in range(many):
                    step = some_step(chance, tellings)
                    self.assertEqual(sky.do(step), model.do(step), step)
                self.assertIsNone(sky.do(SETTLE))
                model.do(SETTLE)
                self.assertEqual((sky.shown(), sky.log()), (model.shown(), model.log))
                self.only_those_that_went_are_missing(sky, model)

    def only_those_that_went_are_missing(self, sky, model):
        came = [entry[1][:2] for entry in sky.log() if entry[0] == "came"]
        due = []
        for stream in range(4):
            made = [frame[:2] for frame in layout(stream, model.scripts[stream], model.size)]
            counts = {mark[1] for mark in made if mark not in model.went or mark in came}
            due.append(rows_by_hand(model.scripts[stream], model.size, counts))
        self.assertEqual(sky.shown(), ([], model.lost, due, 0, 0))

    def test_room_for_all_tells_all(self):
        for seed in range(40):
            chance = chance_of(seed)
            tellings = [some_telling(chance) for _ in range(6)]
            model, steps = Model(8, 60), []
            for _ in range(50):
                steps.append(some_step(chance, tellings))
                model.do(steps[-1])
            made = sum(len(layout(stream, model.scripts[stream] + [CLOSE], 8)) for stream in range(4))
            if made <= 60:
                sky = Sky(8, max(made, 1))
                for step in steps + [SETTLE]:
                    sky.do(step)
                told = [step for step in steps if step[0] == "tell"]
                due = [[step[2] for step in told if step[1] == stream] for stream in range(4)]
                rows = [[("told", *row) for row in enumerate(due[stream])] for stream in range(4)]
                self.assertEqual(sky.shown(), ([], [], rows, 0, 0))


if __name__ == "__main__":
    unittest.main()
