"""Points [12] to [14]: plans, and the room aboard."""

import unittest
from itertools import combinations, product

from skyframes.craft import Craft
from skyframes.errors import BadPlan, BadRoom
from skyframes.room import least_windows, most_kept, short_at
from tests.helping import chance_of

FIVE = (1, 2, 3, 4, 5)
NO_MAKES = (
    (7,),
    (-1,),
    (0, 7),
    (0, -1, 0),
    (True,),
    (None,),
    ("1",),
    ((1,),),
    (0,) * 201,
    [1, 1],
    None,
    3,
)
# What are no windows of five beats.
NO_WINDOWS = (
    ((0, 6),),
    ((5, 6),),
    ((-1, 1),),
    ((2, 1),),
    ((3, 0),),
    ((0, 0),),
    ((2, 2),),
    ((5, 5),),
    ((0, 3), (2, 4)),
    ((0, 3), (1, 2)),
    ((2, 3), (0, 1)),
    ((0, 1), (0, 1)),
    ((0, 1), (1, 1), (1, 2)),
    ((0, 1, 2),),
    ((0,),),
    (0, 1),
    ([0, 1],),
    (None,),
    ((True, 2),),
    ((0, True),),
    ((0, None),),
    ((None, 2),),
    [(0, 1)],
    None,
)
ONES = (1, 1, 1, 1, 1)


def kept_by_hand(makes, windows):
    """Tell how many are kept at each beat, with a list of frames as they come and go."""
    aboard = []
    rows = []
    for beat in range(len(makes)):
        aboard += ["frame"] * makes[beat]
        rows.append(len(aboard))
        if any(beat in range(*window) for window in windows):
            aboard = aboard[1:]
    return rows


def windows_of(beats):
    """Tell beats as windows, side by side ones as one."""
    begins = [beat for beat in beats if beat - 1 not in beats]
    ends = [beat + 1 for beat in beats if beat + 1 not in beats]
    return tuple(zip(begins, ends))


def some_plan(chance, most):
    """Make a plan of a few beats."""
    makes = tuple(chance.choice([0, 0, 1, chance.randint(0, 6)]) for _ in range(chance.randint(0, most)))
    share = chance.random()
    beats = [beat for beat in range(len(makes)) if chance.random() < share]
    return makes, windows_of(beats)


class PlansTest(unittest.TestCase):
    def test_no_beats(self):
        self.assertEqual(most_kept((), ()), 0)
        self.assertIsNone(short_at((), (), 1))
        for windows in (((0, 0),), ((0, 1),)):
            self.assertRaises(BadPlan, most_kept, (), windows)

    def test_how_many_beats(self):
        makes = (0,) * 199 + (6,)
        self.assertEqual(most_kept(makes, ((0, 200),)), 6)
        self.assertEqual(short_at(makes, ((0, 200),), 5), 199)
        self.assertEqual(least_windows(makes, 6), ())
        self.assertEqual(most_kept((6,) * 200, ()), 1200)

    def test_wrong_makes(self):
        for makes in NO_MAKES:
            self.assertRaises(BadPlan, most_kept, makes, ())
            self.assertRaises(BadPlan, short_at, makes, (), 5)
            self.assertRaises(BadPlan, least_windows, makes, 5)

    def test_wrong_windows(self):
        for windows in NO_WINDOWS:
            self.assertRaises(BadPlan, most_kept, ONES, windows)
            self.assertRaises(BadPlan, short_at, ONES, windows, 5)

    def test_right_windows(self):
        for windows, kept in (
            ((), 5),
            (((0, 5),), 1),
            (((4, 5),), 5),
            (((3, 4),), 4),
            (((0, 1), (1, 2)), 3),
            (((0, 2),), 3),
            (((0, 1), (4, 5)), 4),
            (((0, 1), (1, 2), (2, 3), (3, 4), (4, 5)), 1),
        ):
            self.assertEqual(most_kept(ONES, windows), kept, windows)

    def test_wrong_rooms(self):
        for room in (0, 61, -1, True, None):
            self.assertRaises(BadRoom, short_at, ONES, ((0, 5),), room)
            self.assertRaises(BadRoom, least_windows, ONES, room)

    def test_what_is_handed_in_first_is_refused_first(self):
        self.assertRaises(BadPlan, short_at, (7,), (), 0)
        self.assertRaises(BadPlan, short_at, ONES, ((0, 6),), 0)
        self.assertRaises(BadPlan, least_windows, (7,), 0)


class RoomTest(unittest.TestCase):
    def test_makes_come_ahead_of_the_window(self):
        self.assertEqual(most_kept((3,), ((0, 1),)), 3)
        self.assertEqual(most_kept((3, 1), ((0, 1),)), 3)
        self.assertEqual(most_kept((3, 1), ()), 4)
        self.assertEqual(most_kept((3, 1), ((1, 2),)), 4)

    def test_nothing_goes_where_nothing_is_kept(self):
        self.assertEqual(most_kept((0, 0, 2, 1), ((0, 2),)), 3)
        self.assertEqual(most_kept((0, 0, 0), ((0, 3),)), 0)
        self.assertEqual(most_kept((1, 0, 0, 2), ((0, 3),)), 2)

    def test_short_at(self):
        makes = (2, 0, 3, 0, 1)
        windows = ((0, 1), (3, 4))
        self.assertEqual(kept_by_hand(makes, windows), [2, 1, 4, 4, 4])
        self.assertEqual(most_kept(makes, windows), 4)
        self.assertEqual([short_at(makes, windows, room) for room in (1, 2, 3, 4, 60)], [0, 2, 2, None, None])

    def test_short_where_all_is_kept(self):
        self.assertEqual([short_at((6, 6, 6), (), room) for room in (5, 6, 11, 12, 17, 18)], [0, 1, 1, 2, 2, None])
        self.assertIsNone(short_at((6,) * 10, (), 60))
        self.assertEqual(short_at((6,) * 10 + (1,), (), 60), 10)

    def test_many_plans(self):
        for seed in range(300):
            makes, windows = some_plan(chance_of(seed), 30)
            rows = kept_by_hand(makes, windows)
            self.assertEqual(most_kept(makes, windows), max(rows, default=0))
            for room in range(1, 61):
                over = [beat for beat, kept in enumerate(rows) if kept > room]
                self.assertEqual(short_at(makes, windows, room), min(over, default=None))
            if 1 < max(rows, default=0) <= 60:
                self.assertIsNone(short_at(makes, windows, max(rows)))
                self.assertEqual(short_at(makes, windows, max(rows) - 1), rows.index(max(rows)))


class LeastWindowsTest(unittest.TestCase):
    def test_none_are_needed(self):
        for makes in ((), (0,), (0,) * 200, (6, 0, 0), (1, 2, 3)):
            self.assertEqual(least_windows(makes, 6), ())

    def test_none_are_enough(self):
        for makes, room in (
            ((6,), 5), ((1, 3), 2), ((0, 0, 0, 4), 3), ((2, 2, 2), 2), ((6,) * 200, 60), ((1, 1, 3), 2)
        ):
            self.assertIsNone(least_windows(makes, room), makes)

    def test_as_late_as_can_be(self):
        self.assertEqual(least_windows((1, 0, 0, 0, 1, 0), 1), ((3, 4),))
        self.assertEqual(least_windows((2, 0, 1, 0, 0, 1, 0), 2), ((1, 2), (4, 5)))
        self.assertEqual(least_windows((2, 0, 0, 0, 2), 2), ((2, 4),))

    def test_side_by_side_as_one(self):
        self.assertEqual(least_windows((1, 1, 1, 1), 1), ((0, 3),))
        self.assertEqual(least_windows((3, 0, 1, 2, 0, 0, 1), 3), ((0, 3), (5, 6)))

    def test_one_has_to_be_kept_to_go(self):
        # Two have to go ahead of beat 2, but only at beat 1 one is there.
        self.assertIsNone(least_windows((0, 1, 2), 1))
        self.assertIsNone(least_windows((0, 0, 1, 6), 4))
        self.assertEqual(least_windows((0, 1, 1), 1), ((1, 2),))
        self.assertEqual(least_windows((1, 0, 1, 6), 6), ((1, 3),))

    def test_one_that_goes_early_for_a_crowd_later(self):
        self.assertEqual(least_windows((4, 0, 0, 0, 4), 4), ((0, 4),))
        self.assertIsNone(least_windows((4, 0, 0, 4), 4))

    def test_two_hundred_beats(self):
        self.assertEqual(least_windows((1,) * 200, 1), ((0, 199),))
        self.assertEqual(least_windows((1,) * 200, 60), ((59, 199),))
        self.assertEqual(least_windows((0, 1) * 100, 1), tuple((beat, beat + 1) for beat in range(2, 200, 2)))

    def best_by_hand(self, makes, room):
        beats = range(len(makes))
        for many in range(len(makes) + 1):
            # The last of those of as few beats: no other one has its first beat later, and so on.
            for choice in reversed(list(combinations(beats, many))):
                if max(kept_by_hand(makes, windows_of(choice)), default=0) <= room:
                    return choice
        return None

    def test_against_all_choices_of_beats(self):
        for makes in product(range(4), repeat=5):
            for room in (1, 2, 3, 5):
                best = self.best_by_hand(makes, room)
                due = None if best is None else windows_of(best)
                self.assertEqual(least_windows(makes, room), due, (makes, room))

    def test_more_beats(self):
        for seed in range(150):
            chance = chance_of(seed)
            makes, _ = some_plan(chance, 9)
            room = chance.randint(1, 9)
            best = self.best_by_hand(makes, room)
            self.assertEqual(least_windows(makes, room), None if best is None else windows_of(best))

    def test_no_beat_can_be_later(self):
        for seed in range(40):
            chance = chance_of(seed)
            makes, _ = some_plan(chance, 8)
            room = chance.randint(1, 6)
            windows = least_windows(makes, room)
            if windows is None:
                continue
            self.assertIsNone(short_at(makes, windows, room))
            beats = [beat for begin, end in windows for beat in range(begin, end)]
            for other in combinations(range(len(makes)), len(beats)):
                if short_at(makes, windows_of(other), room) is None:
                    self.assertTrue(all(mine >= its for mine, its in zip(beats, other)))


class CraftOfARoomTest(unittest.TestCase):
    """Point [14]: what the room and the craft promise together."""

    def gone_through(self, makes, windows, room):
        """Tell the first beat at which a craft loses a frame, and the most that it kept."""
        craft = Craft(8, room)
        first = None
        most = 0
        for beat, many in enumerate(makes):
            for _ in range(many):
                craft.tell(beat % 4, FIVE)
            most = max(most, len(craft.kept()))
            if craft.lost() and first is None:
                first = beat
            in_window = any(begin <= beat < end for begin, end in windows)
            self.assertTrue(craft.begin() if in_window else not craft.shut())
            frame = craft.beat()
            self.assertEqual(frame is not None, in_window and most > 0 and len(craft.kept()) > 0)
            if frame is not None:
                self.assertEqual(craft.known([frame[:2]]), 1)
            craft.shut()
        return first, most

    def test_a_few(self):
        for makes, windows in (((2, 0, 3, 0, 1), ((0, 1), (3, 4))), ((6, 6, 6), ((0, 3),)), ((), ()), ((1,) * 9, ())):
            for room in range(1, 19):
                first, most = self.gone_through(makes, windows, room)
                self.assertEqual(first, short_at(makes, windows, room))
                if first is None:
                    self.assertEqual(most, most_kept(makes, windows))

    def test_many_plans(self):
        for seed in range(120):
            chance = chance_of(seed)
            makes, windows = some_plan(chance, 20)
            room = chance.randint(1, 20)
            first, most = self.gone_through(makes, windows, room)
            self.assertEqual(first, short_at(makes, windows, room))
            if first is None:
                self.assertEqual(most, most_kept(makes, windows))

    def test_by_the_least_windows_none_is_lost(self):
        for seed in range(120):
            chance = chance_of(seed)
            makes, _ = some_plan(chance, 20)
            room = chance.randint(1, 12)
            windows = least_windows(makes, room)
            if windows is not None:
                self.assertIsNone(self.gone_through(makes, windows, room)[0])


if __name__ == "__main__":
    unittest.main()
