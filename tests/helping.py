"""What several tests use: a layout by other means than the program's, and its errors."""

import random

CLOSE = "close"


def flat_layout(script, size):
    """Lay tellings and closes as one long row; tell it, and each telling's (begin, end) in it."""
    flat = []
    spans = []
    for part in script:
        if part == CLOSE:
            flat += [0] * (-len(flat) % size)
        else:
            number = len(spans)
            begin = len(flat)
            flat += [len(part), number >> 8, number & 255]
            flat += part
            spans.append((begin, len(flat)))
    return flat, spans


def layout(stream, script, size):
    """Tell the frames that are full or filled up, cut from the long row."""
    flat, spans = flat_layout(script, size)
    frames = []
    for count in range(len(flat) // size):
        low = count * size
        begins = [begin - low for begin, _ in spans if low <= begin < low + size]
        frames.append((stream, count, min(begins, default=None), tuple(flat[low:low + size])))
    return frames


def rows_by_hand(script, size, counts):
    """Tell what rows are due if just the frames of these counts came."""
    _, spans = flat_layout(script, size)
    tellings = [part for part in script if part != CLOSE]
    rows = []
    missing = []
    for number, (begin, end) in enumerate(spans):
        if all(place // size in counts for place in range(begin, end)):
            if missing:
                rows.append(("gap", missing[0], missing[-1]))
            rows.append(("told", number, tellings[number]))
            missing = []
        else:
            missing.append(number)
    return rows


def some_telling(chance):
    """Make a telling, often one of zeros, of one number or of twenty."""
    many = chance.choice([1, 2, 5, 20, chance.randint(1, 20)])
    return tuple(chance.choice([0, 0, 1, 20, 255, chance.randint(0, 255)]) for _ in range(many))


def some_script(chance, many):
    """Make tellings with closes between some of them, and one behind."""
    script = []
    for _ in range(many):
        script.append(some_telling(chance))
        if chance.random() < 0.2:
            script.append(CLOSE)
    return script + [CLOSE]


def chance_of(seed):
    """Make a source of numbers that is the same in every run."""
    return random.Random(seed)


def at_of(test, kind, work, *handed):
    """Check that a call is refused by a list's error; tell its `at`."""
    with test.assertRaises(kind) as caught:
        work(*handed)
    return caught.exception.at
