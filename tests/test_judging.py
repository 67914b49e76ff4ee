"""Point [11]: logs, judged."""

import unittest

from skyframes.errors import BadLog, BadSize
from skyframes.judging import judged
from skyframes.sky import Sky
from tests.helping import CLOSE, at_of, chance_of, layout, some_telling
from tests.model import some_step
from tests.test_sky import FIVE, FRAMES

TELL = ("tell", 0, FIVE)
SHORT = ("tell", 0, (6,))
SENT = ("sent", FRAMES[0])
CAME = ("came", FRAMES[0])
ZEROS = (0,) * 8
# Frames that are none of size 8.
NO_FRAMES = (
    (4, 0, 0, ZEROS),
    (-1, 0, 0, ZEROS),
    (True, 0, 0, ZEROS),
    (0, -1, 0, ZEROS),
    (0, 10000, 0, ZEROS),
    (0, False, 0, ZEROS),
    (0, None, 0, ZEROS),
    (0, 0, -1, ZEROS),
    (0, 0, 8, ZEROS),
    (0, 0, True, ZEROS),
    (0, 0, "0", ZEROS),
    (0, 0, 0, ZEROS[1:]),
    (0, 0, 0, ZEROS + (0,)),
    (0, 0, 0, ()),
    (0, 0, 0, None),
    (0, 0, 0, "00000000"),
    (0, 0, 0, ZEROS[1:] + (256,)),
    (0, 0, 0, (-1,) + ZEROS[1:]),
    (0, 0, 0, (False,) + ZEROS[1:]),
    (0, 0, 0, (None,) + ZEROS[1:]),
    (0, 0, 0),
    (0, 0, 0, ZEROS, 0),
    (),
    None,
    0,
    "frame",
)
NO_MARKS = ((4, 0), (-1, 0), (0, -1), (0, 10000), (True, 0), (0, True), (0, None), (0,), (0, 0, 0), (), None, 0, "00")
NO_ENTRIES = (
    (),
    ("told", 0, FIVE),
    ("Tell", 0, FIVE),
    ("", 0),
    ("beat",),
    (0, 0, FIVE),
    (None, 0),
    None,
    0,
    "close",
    ["close", 0],
    ["tell", 0, FIVE],
    (("tell",), 0, FIVE),
    ("tell",),
    ("tell", 0),
    ("tell", 0, FIVE, 0),
    ("tell", 0, *FIVE),
    ("tell", FIVE, 0),
    ("tell", 4, FIVE),
    ("tell", -1, FIVE),
    ("tell", True, FIVE),
    ("tell", None, FIVE),
    ("tell", "0", FIVE),
    ("tell", 0, ()),
    ("tell", 0, (0,) * 21),
    ("tell", 0, (0, 256)),
    ("tell", 0, (-1, 0)),
    ("tell", 0, (0, True)),
    ("tell", 0, (None,)),
    ("tell", 0, ("0",)),
    ("tell", 0, ((0,),)),
    ("tell", 0, 5),
    ("tell", 0, "00"),
    ("close",),
    ("close", 0, 0),
    ("close", 4),
    ("close", -1),
    ("close", False),
    ("close", None),
    ("close", (0,)),
    ("sent",),
    ("came",),
    ("sent", FRAMES[0], 0),
    ("came", FRAMES[0], 0),
    ("sent", *FRAMES[0]),
    ("never",),
    ("never", 0, 0),
    ("never", (0, 0)),
    ("never", [(0, 0)]),
    ("never", None),
    ("never", 0),
    ("never", "00"),
    ("never", ((0, 0),), ()),
    *[(word, frame) for word in ("sent", "came") for frame in NO_FRAMES],
    *[("never", ((0, 0), mark)) for mark in NO_MARKS],
    *[("never", (mark, (0, 0))) for mark in NO_MARKS],
)


def some_log(seed):
    """Make the log of a sky under which much came about; tell its size, too."""
    chance = chance_of(seed)
    size = chance.choice([8, 9, 24])
    sky = Sky(size, chance.choice([1, 2, 5, 60]))
    tellings = [FIVE, (0,) * 20] + [some_telling(chance) for _ in range(4)]
    sky.do(("begin",))
    for _ in range(40):
        sky.do(some_step(chance, tellings))
    sky.do(("settle",))
    return size, sky.log()


def judged_by_hand(size, log):
    """Judge a log by cutting it anew ahead of each entry."""
    for at, entry in enumerate(log):
        frames = []
        for stream in range(4):
            script = [
                part[2] if part[0] == "tell" else CLOSE for part in log[:at]
                if part[0] in ("tell", "close") and part[1] == stream
            ]
            made = layout(stream, script, size)
            if entry == ("close", stream) and layout(stream, script + [CLOSE], size) == made:
                return at
            frames += made
        if entry[0] == "sent" and entry[1] not in frames:
            return at
        if entry[0] == "came" and ("sent", entry[1]) not in log[:at]:
            return at
        if entry[0] == "never" and not (entry[1] and set(entry[1]) <= {frame[:2] for frame in frames}):
            return at
    return None


class EntriesTest(unittest.TestCase):
    def test_sizes(self):
        for size in (8, 24):
            self.assertIsNone(judged(size, []))
        for size in (7, 25, True, None):
            self.assertRaises(BadSize, judged, size, [])
            self.assertRaises(BadSize, judged, size, [("none",)])

    def test_no_entries(self):
        for entry in NO_ENTRIES:
            self.assertEqual(at_of(self, BadLog, judged, 8, [entry]), 0, entry)
            self.assertEqual(at_of(self, BadLog, judged, 8, [TELL, SENT, entry]), 2, entry)

    def test_the_first_that_is_none(self):
        log = [TELL, ("close", 4), SENT, ("never",)]
        self.assertEqual(at_of(self, BadLog, judged, 8, log), 1)

    def test_one_that_is_none_behind_one_that_cannot_be(self):
        self.assertEqual(at_of(self, BadLog, judged, 8, [CAME, TELL, ("close", 4)]), 2)

    def test_the_size_counts(self):
        body = (5, 0, 0, 1, 2, 3, 4, 5)
        self.assertEqual(judged(8, [TELL, ("sent", (0, 0, 0, body))]), None)
        self.assertEqual(at_of(self, BadLog, judged, 9, [TELL, ("sent", (0, 0, 0, body))]), 1)
        self.assertEqual(judged(9, [("sent", (0, 0, 8, body + (0,)))]), 0)
        self.assertEqual(at_of(self, BadLog, judged, 9, [("sent", (0, 0, 9, body + (0,)))]), 0)
        self.assertEqual(judged(24, [("sent", (0, 0, 23, (0,) * 24))]), 0)

    def test_outermost_fields_are_entries(self):
        for stream in range(4):
            self.assertIsNone(judged(8, [("tell", stream, (255,) * 20), ("tell", stream, (0,))]))
            self.assertIsNone(judged(8, [("tell", stream, (0,)), ("close", stream)]))
        for frame in ((3, 9999, 7, (255,) * 8), (0, 0, None, ZEROS), (0, 0, 0, ZEROS)):
            self.assertEqual(judged(8, [("sent", frame)]), 0)
            self.assertEqual(judged(8, [("came", frame)]), 0)
        for mark in ((3, 9999), (0, 0)):
            self.assertEqual(judged(8, [("never", (mark,))]), 0)

    def test_how_many_entries(self):
        log = [TELL] * 1000 + [SENT, CAME] * 500
        self.assertIsNone(judged(8, log))
        self.assertEqual(at_of(self, BadLog, judged, 8, log + [CAME]), 2000)
        self.assertEqual(at_of(self, BadLog, judged, 8, log + [("none",)] * 2), 2000)
        self.assertEqual(at_of(self, BadLog, judged, 8, log[:1999] + [("none",)] * 2), 1999)
        self.assertEqual(judged(8, log[:1999] + [("close", 0)]), 1999)


class JudgedTest(unittest.TestCase):
    def test_no_entry(self):
        self.assertIsNone(judged(8, []))

    def test_tell(self):
        self.assertIsNone(judged(8, [TELL, SHORT, ("tell", 3, (0,)), TELL]))

    def test_close(self):
        self.assertIsNone(judged(8, [SHORT, ("close", 0)]))
        self.assertEqual(judged(8, [("close", 0)]), 0)
        self.assertEqual(judged(8, [TELL, ("close", 0)]), 1)
        self.assertEqual(judged(8, [SHORT, ("close", 1)]), 1)
        self.assertEqual(judged(8, [SHORT, ("close", 0), ("close", 0)]), 2)
        self.assertIsNone(judged(8, [SHORT, ("close", 0), SHORT, ("close", 0)]))

    def test_sent(self):
        self.assertIsNone(judged(8, [TELL, SENT, SENT, TELL, SENT, ("sent", FRAMES[1])]))
        self.assertEqual(judged(8, [SENT]), 0)
        self.assertEqual(judged(8, [TELL, SENT, ("sent", FRAMES[1])]), 2)
        self.assertEqual(judged(8, [SENT, TELL, SENT]), 0)
        filled = ("sent", (0, 0, 0, (1, 0, 0, 6, 0, 0, 0, 0)))
        self.assertEqual(judged(8, [SHORT, filled]), 1)
        self.assertIsNone(judged(8, [SHORT, ("close", 0), filled]))

    def test_sent_otherwise_than_made(self):
        stream, count, first, body = FRAMES[1]
        for frame in (
            (1, count, first, body),
            (stream, 0, first, body),
            (stream, 2, first, body),
            (stream, count, None, body),
            (stream, count, 1, body),
            (stream, count, first, body[:7] + (6,)),
        ):
            self.assertEqual(judged(8, [TELL, TELL, ("sent", frame)]), 2)
            self.assertEqual(judged(8, [TELL, TELL, ("sent", FRAMES[1]), ("came", frame)]), 3)

    def test_came(self):
        self.assertIsNone(judged(8, [TELL, SENT, CAME, CAME, TELL, CAME]))
        self.assertEqual(judged(8, [TELL, CAME]), 1)
        self.assertEqual(judged(8, [TELL, TELL, SENT, ("came", FRAMES[1])]), 3)
        self.assertEqual(judged(8, [TELL, CAME, SENT]), 1)

    def test_never(self):
        self.assertIsNone(judged(8, [TELL, ("never", ((0, 0),))]))
        self.assertIsNone(judged(8, [TELL, TELL, ("never", ((0, 1), (0, 0))), ("never", ((0, 0),)), SENT, CAME]))
        self.assertEqual(judged(8, [TELL, ("never", ())]), 1)
        self.assertEqual(judged(8, [("never", ((0, 0),)), TELL]), 0)
        self.assertEqual(judged(8, [TELL, ("never", ((0, 0), (0, 1)))]), 1)
        self.assertEqual(judged(8, [TELL, ("never", ((1, 0),))]), 1)
        self.assertEqual(judged(8, [SHORT, ("never", ((0, 0),))]), 1)

    def test_streams_are_apart(self):
        log = [("tell", 2, FIVE), ("sent", (2, 0, 0, FRAMES[0][3])), SENT]
        self.assertEqual(judged(8, log), 2)

    def test_the_first_of_several(self):
        self.assertEqual(judged(8, [TELL, CAME, ("close", 0), ("never", ())]), 1)

    def test_many_tellings_are_numbered_in_hundreds(self):
        # Telling 300 begins in frame 300 and is numbered (1, 44) there.
        log = [TELL] * 301 + [("sent", (0, 300, 0, (5, 1, 44, *FIVE)))]
        self.assertIsNone(judged(8, log))
        self.assertEqual(judged(8, log[1:]), 300)


class LogsOfSkiesTest(unittest.TestCase):
    def test_as_they_are_and_cut_off_anywhere(self):
        for seed in range(15):
            size, log = some_log(seed)
            for end in range(len(log) + 1):
                self.assertIsNone(judged(size, log[:end]))

    def test_changed(self):
        found = {}
        for seed in range(120):
            chance = chance_of(seed)
            size, log = some_log(seed % 12)
            at, other = sorted(chance.sample(range(len(log)), 2))
            for changed in (
                log[:at] + log[at + 1:],
                log[:at] + [log[at]] + log[at:],
                log[:other] + [log[at]] + log[other:],
                log[:at] + [log[other]] + log[at + 1:other] + [log[at]] + log[other + 1:],
                log[:at] + [told_otherwise(chance, log[at])] + log[at + 1:],
            ):
                due = judged_by_hand(size, changed)
                self.assertEqual(judged(size, changed), due)
                found[due is None] = True
        self.assertEqual(len(found), 2)


def told_otherwise(chance, entry):
    """Change one field of an entry."""
    if entry[0] == "tell":
        other = entry[2][:-1] + (255 - entry[2][-1],)
        return chance.choice([("tell", entry[1], other), ("tell", 3 - entry[1], entry[2])])
    if entry[0] == "close":
        return ("close", 3 - entry[1])
    if entry[0] == "never":
        return ("never", chance.choice([(), entry[1][1:], entry[1] + ((0, 5),), entry[1] + ((3, 5000),)]))
    stream, count, first, body = entry[1]
    frame = chance.choice([
        (3 - stream, count, first, body),
        (stream, count + 1, first, body),
        (stream, count, None if first == 0 else 0, body),
        (stream, count, first, body[:-1] + (255 - body[-1],)),
    ])
    return (entry[0], frame)


if __name__ == "__main__":
    unittest.main()
