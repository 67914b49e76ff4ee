"""Whether a log can have come about: each entry is held against those ahead of it."""

from skyframes.checks import STREAMS, check_size, is_frame, is_mark, is_stream, is_telling
from skyframes.errors import BadLog
from skyframes.laying import Laying

MOST_ENTRIES = 2000


class Story:
    """What was made and sent by the entries so far."""

    def __init__(self, size):
        self._layings = [Laying(stream, size) for stream in range(STREAMS)]
        # Both by mark: the frames that were made, and those of them that were sent.
        self._made = {}
        self._sent = {}

    def goes_on(self, entry):
        """Take an entry; tell whether it can be behind those so far."""
        match entry:
            case ("tell", stream, telling):
                self._make(self._layings[stream].lay(telling))
                return True
            case ("close", stream):
                filled = self._layings[stream].fill()
                self._make([] if filled is None else [filled])
                return filled is not None
            case ("sent", frame):
                return self._send(frame)
            case ("came", frame):
                return self._sent.get((frame[0], frame[1])) == frame
            case ("never", marks):
                return len(marks) > 0 and all([mark in self._made for mark in marks])
        return False

    def _make(self, frames):
        for frame in frames:
            self._made[(frame[0], frame[1])] = frame

    def _send(self, frame):
        mark = (frame[0], frame[1])
        if self._made.get(mark) != frame:
            return False
        self._sent[mark] = frame
        return True


def judged(size, log):
    """Tell the number of the first entry that can't be behind those ahead; None if all can."""
    check_size(size)
    _check_log(size, log)
    story = Story(size)
    for at, entry in enumerate(log):
        if not story.goes_on(entry):
            return at
    return None


def _check_log(size, log):
    for at, entry in enumerate(log):
        if at == MOST_ENTRIES or not _is_entry(entry, size):
            raise BadLog(at)


def _is_entry(entry, size):
    """Tell whether something is an entry of a log, by its parts alone."""
    # A list would match the patterns below as well.
    if not isinstance(entry, tuple):
        return False
    match entry:
        case ("tell", stream, telling):
            return is_stream(stream) and is_telling(telling)
        case ("close", stream):
            return is_stream(stream)
        case ("sent" | "came", frame):
            return is_frame(frame, size)
        case ("never", marks):
            return isinstance(marks, tuple) and all([is_mark(mark) for mark in marks])
    return False
