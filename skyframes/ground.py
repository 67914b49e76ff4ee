"""The ground: gathers the frames that come, in whatever order, and tells what is in them."""

from skyframes.checks import STREAMS, check_marks, check_size, check_stream, is_frame
from skyframes.errors import BadFrame
from skyframes.frames import rows_of


class Ground:
    """What came, what of it is whole, and what is wanted."""

    def __init__(self, size):
        check_size(size)
        self._size = size
        self._came = [{} for _ in range(STREAMS)]
        self._never = {}

    def hear(self, frame):
        """Take a frame; tell whether it is new."""
        if not is_frame(frame, self._size):
            raise BadFrame("not a frame of this ground's size")
        stream, count = frame[0], frame[1]
        if count in self._came[stream]:
            return False
        self._came[stream][count] = frame
        return True

    def never(self, marks):
        """Take the marks of frames that don't come any more."""
        check_marks(marks)
        for mark in marks:
            self._never[mark] = True

    def rows(self, stream):
        """Tell of a stream what rows_of tells of all that came."""
        check_stream(stream)
        return rows_of(list(self._came[stream].values()), self._size)

    def has(self):
        """Tell the marks of all that came, rising."""
        return [(stream, count) for stream in range(STREAMS) for count in sorted(self._came[stream])]

    def wants(self):
        """Tell the marks of all that is missing and may still come, rising."""
        wanted = []
        for stream in range(STREAMS):
            came = self._came[stream]
            for count in range(max(came, default=0)):
                if count not in came and (stream, count) not in self._never:
                    wanted.append((stream, count))
        return wanted
