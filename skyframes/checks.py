"""What may be handed in: each check refuses, or tells whether, and changes nothing."""

from skyframes.errors import BadData, BadMarks, BadRoom, BadSize, BadStream

STREAMS = 4
MOST_NUMBERS = 20
LEAST_SIZE = 8
MOST_SIZE = 24
MOST_ROOM = 60
MOST_COUNT = 9999


def is_number(value, low, high):
    """Tell whether a value is a whole number from low to high."""
    # True and False are integers to Python, but no numbers to the document.
    return isinstance(value, int) and not isinstance(value, bool) and low <= value <= high


def is_stream(value):
    """Tell whether a value is the number of a stream."""
    return is_number(value, 0, STREAMS - 1)


def holds_numbers(value):
    """Tell whether a value is a tuple of numbers from 0 to 255."""
    return isinstance(value, tuple) and all([is_number(number, 0, 255) for number in value])


def is_mark(value):
    """Tell whether a value is a mark, (stream, count)."""
    if not isinstance(value, tuple) or len(value) != 2:
        return False
    stream, count = value
    return is_stream(stream) and is_number(count, 0, MOST_COUNT)


def is_frame(value, size):
    """Tell whether a value is a frame of a size, by its parts alone."""
    if not isinstance(value, tuple) or len(value) != 4:
        return False
    stream, count, first, body = value
    return (
        is_mark((stream, count))
        and (first is None or is_number(first, 0, size - 1))
        and holds_numbers(body)
        and len(body) == size
    )


def check_stream(stream):
    """Refuse what is no stream."""
    if not is_stream(stream):
        raise BadStream("a stream is a number from 0 to 3")


def check_telling(telling):
    """Refuse what is no telling."""
    if not holds_numbers(telling) or not 1 <= len(telling) <= MOST_NUMBERS:
        raise BadData("a telling is a tuple of one to twenty numbers from 0 to 255")


def check_size(size):
    """Refuse what is no size of frames."""
    if not is_number(size, LEAST_SIZE, MOST_SIZE):
        raise BadSize("a size is a number from 8 to 24")


def check_room(room):
    """Refuse what is no room aboard."""
    if not is_number(room, 1, MOST_ROOM):
        raise BadRoom("a room is a number from 1 to 60")


def check_marks(marks):
    """Refuse a list in which something is no mark."""
    for at, mark in enumerate(marks):
        if not is_mark(mark):
            raise BadMarks(at)
