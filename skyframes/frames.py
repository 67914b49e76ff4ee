"""Tellings laid into frames, and read from those frames that there are."""

from skyframes.checks import check_size, check_stream, check_telling, is_frame
from skyframes.errors import BadFrames
from skyframes.laying import HEAD, HUNDRED, Laying


def frames_of(stream, tellings, size):
    """Tell the frames of a list of tellings, the last one filled up if it isn't full."""
    check_stream(stream)
    for telling in tellings:
        check_telling(telling)
    check_size(size)
    laying = Laying(stream, size)
    frames = []
    for telling in tellings:
        frames.extend(laying.lay(telling))
    last = laying.fill()
    if last is not None:
        frames.append(last)
    return frames


def rows_of(frames, size):
    """Tell what is whole in frames of one stream, and the gaps ahead of it, in order."""
    check_size(size)
    _check_frames(frames, size)
    told = _told_in(frames, size)
    rows = []
    low = 0
    for number in sorted(told):
        if number > low:
            rows.append(("gap", low, number - 1))
        rows.append(("told", number, told[number]))
        low = number + 1
    return rows


def _check_frames(frames, size):
    ahead = {}
    for at, frame in enumerate(frames):
        if not is_frame(frame, size) or frame[0] != frames[0][0]:
            raise BadFrames(at)
        if ahead.setdefault(frame[1], frame) != frame:
            raise BadFrames(at)


def _told_in(frames, size):
    """Tell the tellings that lie wholly in the frames, by their numbers."""
    bodies = {frame[1]: frame[3] for frame in frames}
    told = {}
    for frame in frames:
        for place in _beginnings(frame, size):
            laid = _laid_at(bodies, place, size)
            if laid is not None:
                told[laid[1] * HUNDRED + laid[2]] = tuple(laid[HEAD:])
    return told


def _beginnings(frame, size):
    """Tell where tellings begin in a frame, as places counted over all frames of the stream."""
    _, count, first, body = frame
    places = []
    at = size if first is None else first
    # A telling has a number at least, so a zero where one would begin is filling.
    while at < size and body[at] > 0:
        places.append(count * size + at)
        at += HEAD + body[at]
    return places


def _laid_at(bodies, place, size):
    """Tell all that is laid of the telling that begins at a place; None if some isn't there."""
    many = HEAD + bodies[place // size][place % size]
    laid = []
    for at in range(place, place + many):
        body = bodies.get(at // size)
        if body is None:
            return None
        laid.append(body[at % size])
    return laid
