"""The sky: a craft, the ground, and the two roads between them, on which letters lie."""

from skyframes.checks import STREAMS
from skyframes.craft import Craft
from skyframes.ground import Ground


class Sky:
    """What goes on between a craft and the ground, step by step."""

    def __init__(self, size, room):
        self._craft = Craft(size, room)
        self._ground = Ground(size)
        # A letter down is the very entry that the log gets when it is heard; a letter up is what
        # the ground had and wanted when it was laid.
        self._roads = {"down": [], "up": []}
        self._entries = []

    def do(self, step):
        """Do a step; tell what it tells."""
        match step:
            case ("tell", stream, telling):
                return self._tell(stream, telling)
            case ("close", stream):
                return self._close(stream)
            case ("begin",):
                return self._craft.begin()
            case ("shut",):
                return self._craft.shut()
            case ("beat",):
                return self._beat()
            case ("ask",):
                self._ask()
            case ("settle",):
                self._settle()
            case ("hear", way, k):
                self._hear(way, k)
                self._lose(way, k)
            case ("lose", way, k):
                self._lose(way, k)
            case ("twice", way, k):
                self._hear(way, k)
        return None

    def shown(self):
        """Tell what is kept, lost, the rows of all streams, how many letters lie down, up."""
        rows = [self._ground.rows(stream) for stream in range(STREAMS)]
        return (
            self._craft.kept(),
            self._craft.lost(),
            rows,
            len(self._roads["down"]),
            len(self._roads["up"]),
        )

    def log(self):
        """Tell what came about, in order."""
        return list(self._entries)

    def _tell(self, stream, telling):
        number = self._craft.tell(stream, telling)
        self._entries.append(("tell", stream, telling))
        return number

    def _close(self, stream):
        filled = self._craft.close(stream)
        if filled:
            self._entries.append(("close", stream))
        return filled

    def _beat(self):
        frame = self._craft.beat()
        if frame is None:
            return None
        self._entries.append(("sent", frame))
        self._roads["down"].append(("came", frame))
        return (frame[0], frame[1])

    def _ask(self):
        self._roads["up"].append((self._ground.has(), self._ground.wants()))

    def _letter(self, way, k):
        """Tell letter number k of a road; None if there is none."""
        road = self._roads.get(way, [])
        return road[k] if 0 <= k < len(road) else None

    def _lose(self, way, k):
        if self._letter(way, k) is not None:
            del self._roads[way][k]

    def _hear(self, way, k):
        letter = self._letter(way, k)
        if letter is None:
            return
        if way == "down":
            self._hear_down(letter)
        else:
            self._hear_up(letter)

    def _hear_down(self, letter):
        word, what = letter
        if word == "came":
            self._ground.hear(what)
        else:
            self._ground.never(what)
        self._entries.append(letter)

    def _hear_up(self, letter):
        has, wants = letter
        self._craft.known(has)
        others = self._craft.again(wants)
        if others:
            self._roads["down"].append(("never", tuple(others)))

    def _settle(self):
        for stream in range(STREAMS):
            self._close(stream)
        self._craft.begin()
        self._hear_all()
        while self._craft.kept() or self._ground.wants():
            self._go_round()

    def _hear_all(self):
        while self._roads["down"] or self._roads["up"]:
            way = "down" if self._roads["down"] else "up"
            self.do(("hear", way, 0))

    def _go_round(self):
        while self._beat() is not None:
            self._hear_all()
        self._ask()
        self._hear_all()
        # What was sent but never came, and no later frame of its stream came either, the ground
        # can't want: without this it would be kept forever.
        self._craft.again([(stream, count) for stream, count, _ in self._craft.kept()])
