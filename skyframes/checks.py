"""What may be handed in: each check refuses, or tells whether, and changes nothing."""

from skyframes.errors import BadData, BadMarks, BadPlan, BadRoom, BadSize, BadStream

STREAMS = 4
MOST_NUMBERS = 20
LEAST_SIZE = 8
MOST_SIZE = 24
MOST_ROOM = 60
MOST_COUNT = 9999
MOST_BEATS = 200
MOST_MADE = 6


def is_number(value, low, high):
    """Tell whether a value is a whole number from low to high."""
    # True and False are integers to Python, but no numbers to the document.
    return isinstance(value, int) and not isinstance(value, bool) and low <= value <= high


def is_stream(value):
    """Tell whether a value is the number of a stream."""
    return is_number(value, 0, STREAMS - 1)


def holds_numbers(value):
    """Tell whether a value is a tuple of numbers from 0 to 255."""
    return isinstance(value, tuple) and all([is_number(number, 0, 255) for number in value])


def is_telling(value):
    """Tell whether a value is a telling."""
    return holds_numbers(value) and 1 <= len(value) <= MOST_NUMBERS


def is_mark(value):
    """Tell whether a value is a mark, (stream, count)."""
    if not isinstance(value, tuple) or len(value) != 2:
        return False
    stream, count = value
    return is_stream(stream) and is_number(count, 0, MOST_COUNT)


def is_frame(value, size):
    """Tell whether a value is a frame of a size, by its parts alone."""
    if not isinstance(value, tuple) or len(value) != 4:
        return False
    stream, count, first, body = value
    return (
        is_mark((stream, count))
        and (first is None or is_number(first, 0, size - 1))
        and holds_numbers(body)
        and len(body) == size
    )


def is_window(value, low, high):
    """Tell whether a value is a window of one beat or more, that begins from low on and ends by high."""
    if not isinstance(value, tuple) or len(value) != 2:
        return False
    begin, end = value
    return is_number(begin, low, high) and is_number(end, begin + 1, high)


def check_stream(stream):
    """Refuse what is no stream."""
    if not is_stream(stream):
        raise BadStream("a stream is a number from 0 to 3")


def check_telling(telling):
    """Refuse what is no telling."""
    if not is_telling(telling):
        raise BadData("a telling is a tuple of one to twenty numbers from 0 to 255")


def check_size(size):
    """Refuse what is no size of frames."""
    if not is_number(size, LEAST_SIZE, MOST_SIZE):
        raise BadSize("a size is a number from 8 to 24")


def check_room(room):
    """Refuse what is no room aboard."""
    if not is_number(room, 1, MOST_ROOM):
        raise BadRoom("a room is a number from 1 to 60")


def check_marks(marks):
    """Refuse a list in which something is no mark."""
    for at, mark in enumerate(marks):
        if not is_mark(mark):
            raise BadMarks(at)


def check_makes(makes):
    """Refuse what doesn't tell how many frames are made at each beat."""
    if not isinstance(makes, tuple) or len(makes) > MOST_BEATS:
        raise BadPlan("makes are a tuple of at most 200 beats")
    if not all([is_number(many, 0, MOST_MADE) for many in makes]):
        raise BadPlan("at each beat 0 to 6 frames are made")


def check_windows(windows, beats):
    """Refuse what are no windows of so many beats, in order and apart."""
    if not isinstance(windows, tuple):
        raise BadPlan("windows are a tuple")
    low = 0
    for window in windows:
        if not is_window(window, low, beats):
            raise BadPlan("a window goes from a beat up to ahead of another, behind the window ahead")
        low = window[1]
