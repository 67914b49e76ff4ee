"""The craft: lays tellings into frames, keeps them while there is room, sends them in windows."""

from skyframes.checks import STREAMS, check_marks, check_room, check_size, check_stream, check_telling
from skyframes.laying import Laying


class Craft:
    """What is aboard: the frames that are kept, in the order in which they were made."""

    def __init__(self, size, room):
        check_size(size)
        check_room(room)
        self._room = room
        self._layings = [Laying(stream, size) for stream in range(STREAMS)]
        self._window = False
        # Dicts by mark, as they keep the order: the frames kept, and True for each of them that
        # was sent, that is asked for.
        self._frames = {}
        self._sent = {}
        self._asked = {}
        self._gone = []

    def tell(self, stream, data):
        """Lay a telling; tell its number."""
        check_stream(stream)
        check_telling(data)
        laying = self._layings[stream]
        number = laying.many
        for frame in laying.lay(data):
            self._keep(frame)
        return number

    def close(self, stream):
        """Fill up a stream's frame, if something is in it; tell whether."""
        check_stream(stream)
        frame = self._layings[stream].fill()
        if frame is None:
            return False
        self._keep(frame)
        return True

    def begin(self):
        """Begin a window; tell whether none was there."""
        fresh = not self._window
        self._window = True
        return fresh

    def shut(self):
        """End the window; tell whether one was there."""
        ended = self._window
        self._window = False
        return ended

    def beat(self):
        """Send a frame, in a window: one that is asked for, else the oldest fresh one."""
        mark = self._next_mark() if self._window else None
        if mark is None:
            return None
        self._asked.pop(mark, None)
        self._sent[mark] = True
        return self._frames[mark]

    def known(self, marks):
        """Let go those of the marks that are kept; tell how many."""
        check_marks(marks)
        many = 0
        for mark in marks:
            if mark in self._frames:
                self._let_go(mark)
                many += 1
        return many

    def again(self, marks):
        """Let those of the marks that are kept be asked for; tell the others."""
        check_marks(marks)
        others = []
        for mark in marks:
            if mark in self._frames:
                self._asked.setdefault(mark, True)
            else:
                others.append(mark)
        return others

    def kept(self):
        """Tell (stream, count, "fresh" or "sent") of all that are kept."""
        rows = []
        for stream, count in self._frames:
            state = "sent" if (stream, count) in self._sent else "fresh"
            rows.append((stream, count, state))
        return rows

    def lost(self):
        """Tell the marks of all that went for want of room and were never sent."""
        return list(self._gone)

    def waits(self):
        """Tell the marks of those that are asked for."""
        return list(self._asked)

    def _next_mark(self):
        fresh = [mark for mark in self._frames if mark not in self._sent]
        line = list(self._asked) + fresh
        return line[0] if line else None

    def _keep(self, frame):
        if len(self._frames) == self._room:
            self._make_room()
        self._frames[(frame[0], frame[1])] = frame

    def _make_room(self):
        sent = [mark for mark in self._frames if mark in self._sent]
        if sent:
            self._let_go(sent[0])
        else:
            oldest = list(self._frames)[0]
            self._let_go(oldest)
            self._gone.append(oldest)

    def _let_go(self, mark):
        del self._frames[mark]
        self._sent.pop(mark, None)
        self._asked.pop(mark, None)
