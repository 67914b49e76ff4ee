"""How the tellings of one stream are laid head to tail into frames."""

# The numbers laid ahead of a telling's own: how many it has, its number's hundreds, the rest.
HEAD = 3
HUNDRED = 256


class Laying:
    """The frames of one stream as they are made; `many` is how many tellings were laid."""

    def __init__(self, stream, size):
        self.many = 0
        self._stream = stream
        self._size = size
        self._count = 0
        self._first = None
        self._body = []

    def lay(self, telling):
        """Lay the next telling; return the frames that it made full."""
        if self._first is None:
            self._first = len(self._body)
        laid = [len(telling), self.many // HUNDRED, self.many % HUNDRED, *telling]
        self.many += 1
        full = []
        for number in laid:
            self._body.append(number)
            if len(self._body) == self._size:
                full.append(self._done())
        return full

    def fill(self):
        """Fill up the frame that isn't full and return it; None if nothing is in it."""
        if not self._body:
            return None
        self._body.extend([0] * (self._size - len(self._body)))
        return self._done()

    def _done(self):
        frame = (self._stream, self._count, self._first, tuple(self._body))
        self._count += 1
        self._first = None
        self._body = []
        return frame
