"""A sky by other means than the program's: plain lists, gone through again at each question."""

from tests.helping import CLOSE, layout, rows_by_hand


def mark_of(frame):
    """Tell a frame's mark."""
    return frame[:2]


class Model:
    """The steps of points [9] and [10], each written down as the document words it."""

    def __init__(self, size, room):
        self.size = size
        self.room = room
        self.scripts = [[], [], [], []]
        self.aboard = []
        self.sent = []
        self.asked = []
        self.lost = []
        self.went = []
        self.window = False
        self.came = []
        self.nevers = []
        self.down = []
        self.up = []
        self.log = []

    def do(self, step):
        """Do a step that isn't refused; tell what it tells."""
        return getattr(self, "do_" + step[0])(*step[1:])

    def made(self, stream):
        """Tell all frames of a stream that are full or filled up."""
        return layout(stream, self.scripts[stream], self.size)

    def put(self, stream, part):
        """Add to what a stream tells; keep the frames that it makes."""
        ahead = len(self.made(stream))
        self.scripts[stream].append(part)
        for frame in self.made(stream)[ahead:]:
            if len(self.aboard) == self.room:
                oldest = ([old for old in self.aboard if mark_of(old) in self.sent] + self.aboard)[0]
                self.went.append(mark_of(oldest))
                if mark_of(oldest) not in self.sent:
                    self.lost.append(mark_of(oldest))
                self.drop(mark_of(oldest))
            self.aboard.append(frame)
        return len(self.made(stream)) - ahead

    def drop(self, mark):
        """Let a frame go."""
        self.aboard = [frame for frame in self.aboard if mark_of(frame) != mark]
        self.asked = [other for other in self.asked if other != mark]

    def marks(self):
        """Tell the marks of all that are kept."""
        return [mark_of(frame) for frame in self.aboard]

    def do_tell(self, stream, telling):
        self.put(stream, telling)
        self.log.append(("tell", stream, telling))
        return len([part for part in self.scripts[stream] if part != CLOSE]) - 1

    def do_close(self, stream):
        many = self.put(stream, CLOSE)
        if many:
            self.log.append(("close", stream))
        return many == 1

    def do_begin(self):
        was, self.window = self.window, True
        return not was

    def do_shut(self):
        was, self.window = self.window, False
        return was

    def do_beat(self):
        fresh = [mark for mark in self.marks() if mark not in self.sent]
        if not self.window or not self.asked + fresh:
            return None
        mark = (self.asked + fresh)[0]
        frame = self.made(mark[0])[mark[1]]
        self.asked = [other for other in self.asked if other != mark]
        self.sent.append(mark)
        self.log.append(("sent", frame))
        self.down.append(frame)
        return mark

    def has(self):
        """Tell the marks of all that came."""
        return sorted(set(map(mark_of, self.came)))

    def wants(self):
        """Tell the marks of all that is missing ahead of what came, but those that never come."""
        wanted = []
        for stream, high in self.has():
            wanted += [(stream, count) for count in range(high)]
        return sorted(set(wanted) - set(self.has()) - set(self.nevers))

    def do_ask(self):
        self.up.append((self.has(), self.wants()))

    def do_hear(self, way, k):
        self.do_twice(way, k)
        self.do_lose(way, k)

    def do_lose(self, way, k):
        road = self.down if way == "down" else self.up
        road[k:k + 1] = []

    def do_twice(self, way, k):
        for letter in (self.down if way == "down" else self.up)[k:k + 1]:
            if way == "up":
                self.answer(*letter)
            elif letter[0] == "never":
                self.nevers += letter[1]
                self.log.append(letter)
            else:
                self.came.append(letter)
                self.log.append(("came", letter))

    def answer(self, has, wants):
        """Do aboard what an ask wants."""
        for mark in has:
            self.drop(mark)
        others = [mark for mark in wants if mark not in self.marks()]
        self.ask_again([mark for mark in wants if mark in self.marks()])
        if others:
            self.down.append(("never", tuple(others)))

    def ask_again(self, marks):
        """Ask for marks that are kept, each once."""
        self.asked += [mark for mark in marks if mark not in self.asked]

    def do_settle(self):
        for stream in range(4):
            self.do_close(stream)
        self.window = True
        self.clear()
        first = True
        while first or self.aboard or self.wants():
            first = False
            while self.do_beat():
                self.clear()
            self.do_ask()
            self.clear()
            self.ask_again(self.marks())

    def clear(self):
        """Let all on the roads be heard."""
        while self.down:
            self.do_hear("down", 0)
        while self.up:
            self.do_hear("up", 0)
        while self.down:
            self.do_hear("down", 0)

    def shown(self):
        """Tell what the sky shows."""
        kept = [(*mark, "sent" if mark in self.sent else "fresh") for mark in self.marks()]
        counts = [{count for at, count in self.has() if at == stream} for stream in range(4)]
        rows = [rows_by_hand(self.scripts[stream], self.size, counts[stream]) for stream in range(4)]
        return (kept, list(self.lost), rows, len(self.down), len(self.up))


def some_step(chance, tellings):
    """Make a step, most often one that lays or hears something."""
    stream = chance.choice([0, 0, 0, 1, 2, 3])
    word = chance.choice(
        ["tell"] * 8 + ["beat"] * 7 + ["hear"] * 6 + ["ask"] * 3 + ["close", "lose", "lose", "twice", "begin"]
        + ["shut"] * (chance.random() < 0.3)
    )
    if word == "tell":
        return (word, stream, chance.choice(tellings))
    if word == "close":
        return (word, stream)
    if word in ("hear", "lose", "twice"):
        return (word, chance.choice(["down", "down", "up"]), chance.choice([0, 0, 0, 1, 2, 5]))
    return (word,)
