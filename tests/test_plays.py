"""Point [15]: plays, done, written and read."""

import unittest

from skyframes.errors import BadRoom, BadSize, BadText
from skyframes.plays import played, read, written
from skyframes.sky import Sky
from tests.helping import chance_of, some_telling
from tests.model import some_step
from tests.test_sky import FIVE, FRAMES, NO_ROWS, fives

# One step of each word, and as they are written.
EACH = [
    ("tell", 0, FIVE),
    ("tell", 3, (0,)),
    ("close", 3),
    ("begin",),
    ("beat",),
    ("beat",),
    ("twice", "down", 0),
    ("lose", "down", 0),
    ("hear", "down", 0),
    ("ask",),
    ("hear", "up", 0),
    ("lose", "up", 10),
    ("twice", "up", 100),
    ("shut",),
    ("settle",),
]
EACH_WRITTEN = (
    "tell 0 1 2 3 4 5\ntell 3 0\nclose 3\nbegin\nbeat\nbeat\ntwice down 0\nlose down 0\nhear down 0\n"
    "ask\nhear up 0\nlose up 10\ntwice up 100\nshut\nsettle"
)
NO_NUMBERS = (
    "", "00", "01", "007", "000", "0000", "1000", "9999", "+1", "-1", "-0", "1.0", "1,", "0x1", "1_0", "one", "True",
    "None", "down", "a", "~", "1\t", "()", "\u00b2", "\u0661",
)
NO_STEPS = (
    "", " ", "  ",
    "fly", "Tell 0 1", "TELL 0 1", "tel 0 1", "tells 0 1", "0", "0 1", "down", "hear,down,0",
    "tell", "tell 0", "tell 0 ", "tell  0 1", "tell 0  1", "tell 0 1 ", " tell 0 1", "tell 0 (1,)",
    "close", "close ", "close  0", "close 0 ", " close 0", "close 0 0", "close down",
    "begin 0", "begin ", " begin", "shut 0", "shut ", "beat 0", "beat ", "beat beat", "ask 0", "ask ", "settle 0",
    "settle ", "beginbeat", "begin down 0",
    "hear", "hear down", "hear 0", "hear down ", "hear 0 down", "hear down 0 0", "hear down 0 ", "hear  down 0",
    "hear down  0", " hear down 0", "hear Down 0", "hear side 0", "hear  0", "hear down up", "hear 0 0",
    "hear down up 0",
    "lose", "lose up", "lose 0", "lose up 0 0", "twice", "twice up", "twice up 0 1", "tell down 0", "close down 0",
)


class PlayedTest(unittest.TestCase):
    def test_no_steps(self):
        told, sky = played(8, 5, [])
        self.assertEqual(told, [])
        self.assertIsInstance(sky, Sky)
        self.assertEqual((sky.shown(), sky.log()), (([], [], NO_ROWS, 0, 0), []))

    def test_what_each_step_tells(self):
        told, sky = played(8, 5, EACH)
        due = [0, 0, True, True, (0, 0), (3, 0)] + [None] * 7 + [True, None]
        self.assertEqual(told, due)
        self.assertEqual([part is True for part in told], [part is True for part in due])
        self.assertEqual(sky.shown(), ([], [], [fives(0), [], [], [("told", 0, (0,))]], 0, 0))

    def test_refused_steps(self):
        steps = [
            ("tell", 0, FIVE), ("tell", 4, FIVE), ("tell", 0, ()), ("tell", 0, (256,)), ("close", 9), ("close", 0),
            ("tell", 0, (0,) * 21), ("hear", "down", 999), ("tell", 0, FIVE), ("beat",),
        ]
        told, sky = played(8, 5, steps)
        self.assertEqual(told, [0, "no", "no", "no", "no", False, "no", None, 1, None])
        self.assertEqual(sky.log(), [("tell", 0, FIVE)] * 2)

    def test_the_sky_goes_on(self):
        told, sky = played(8, 5, [("tell", 0, FIVE), ("begin",)])
        self.assertEqual(told, [0, True])
        self.assertEqual(sky.do(("beat",)), (0, 0))
        self.assertEqual(sky.log(), [("tell", 0, FIVE), ("sent", FRAMES[0])])
        self.assertEqual(told, [0, True])

    def test_wrong_sizes_and_rooms(self):
        for size in (7, 25):
            self.assertRaises(BadSize, played, size, 0, [])
        for room in (0, 61):
            self.assertRaises(BadRoom, played, 8, room, [])

    def test_the_room_and_the_size_count(self):
        steps = [("tell", 0, FIVE)] * 9
        self.assertEqual(len(played(8, 3, steps)[1].shown()[0]), 3)
        self.assertEqual(len(played(24, 60, steps)[1].shown()[0]), 3)

    def test_plays_as_the_sky(self):
        for seed in range(20):
            chance = chance_of(seed)
            tellings = [some_telling(chance) for _ in range(4)]
            steps = [some_step(chance, tellings) for _ in range(50)] + [("settle",)]
            told, sky = played(9, 4, steps)
            other = Sky(9, 4)
            self.assertEqual(told, [other.do(step) for step in steps])
            self.assertEqual((sky.shown(), sky.log()), (other.shown(), other.log()))


class WrittenTest(unittest.TestCase):
    def test_no_steps(self):
        self.assertEqual(written([]), "")
        self.assertEqual(read(""), [])

    def test_each_word(self):
        self.assertEqual(written(EACH), EACH_WRITTEN)
        self.assertEqual(read(EACH_WRITTEN), EACH)
        for step, row in zip(EACH, EACH_WRITTEN.split("\n")):
            self.assertEqual(written([step]), row)
            self.assertEqual(read(row), [step])

    def test_written_and_read(self):
        for seed in range(40):
            chance = chance_of(seed)
            tellings = [some_telling(chance) for _ in range(4)]
            steps = [some_step(chance, tellings) for _ in range(chance.randint(0, 60))]
            text = written(steps)
            self.assertEqual(len(text.split("\n")), max(len(steps), 1))
            self.assertEqual(read(text), steps)
            self.assertEqual(written(read(text)), text)

    def test_refused_steps_are_steps(self):
        for row, step in (
            ("tell 4 1", ("tell", 4, (1,))),
            ("tell 999 256 999", ("tell", 999, (256, 999))),
            ("tell 0" + " 0" * 21, ("tell", 0, (0,) * 21)),
            ("close 9", ("close", 9)),
            ("close 999", ("close", 999)),
        ):
            self.assertEqual(read(row), [step])
            self.assertEqual(written([step]), row)
            self.assertEqual(played(8, 5, [step])[0], ["no"])

    def test_a_long_text(self):
        steps = [("tell", 3, (255,) * 20)] * 51
        text = written(steps)
        self.assertGreater(len(text), 4400)
        self.assertEqual(read(text), steps)


class ReadTest(unittest.TestCase):
    def line_of(self, text):
        with self.assertRaises(BadText) as caught:
            read(text)
        return caught.exception.line

    def test_no_steps_alone_and_behind_others(self):
        for row in NO_STEPS:
            if row:
                self.assertEqual(self.line_of(row), 0, row)
            for text in ("beat\n" + row, "beat\n" + row + "\n", "beat\n" + row + "\nask", "beat\n" + row + "\nfly"):
                self.assertEqual(self.line_of(text), 1, text)

    def test_line_ends(self):
        for text, line in (
            ("\n", 0), ("\n\n", 0), ("\nbeat", 0), ("beat\n", 1), ("beat\n\nbeat", 1), ("beat\nask\n", 2),
            ("tell 0\n1", 0), (EACH_WRITTEN + "\n", len(EACH)), ("\n" + EACH_WRITTEN, 0),
        ):
            self.assertEqual(self.line_of(text), line, text)

    def test_wrong_numbers(self):
        for word in NO_NUMBERS:
            for row in (
                f"tell {word} 1", f"tell 1 {word}", f"tell 1 {word} 1", f"close {word}", f"hear down {word}",
                f"lose up {word}", f"twice down {word}",
            ):
                self.assertEqual(self.line_of(row), 0, row)
                self.assertEqual(self.line_of(EACH_WRITTEN + "\n" + row), len(EACH), row)

    def test_right_numbers(self):
        for number in (0, 1, 9, 10, 99, 100, 200, 255, 909, 999):
            text = f"tell {number} {number}\nclose {number}\nhear up {number}"
            self.assertEqual(read(text), [("tell", number, (number,)), ("close", number), ("hear", "up", number)])

    def test_the_first_of_several(self):
        self.assertEqual(self.line_of("beat\nask\nfly\nbeat\nfly away\n"), 2)

    def test_kinds_of_what_is_read(self):
        for step in read(EACH_WRITTEN):
            self.assertIs(type(step), tuple)
            if step[0] == "tell":
                self.assertIs(type(step[2]), tuple)


if __name__ == "__main__":
    unittest.main()
