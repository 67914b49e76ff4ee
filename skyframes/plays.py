"""Plays: steps done one by one, written as rows of words, and read again."""

from skyframes.errors import BadText, SkyError
from skyframes.sky import Sky

# The words of the steps, by what stands behind them: nothing, or a road and a letter's number.
BARE = ("begin", "shut", "beat", "ask", "settle")
LETTERS = ("hear", "lose", "twice")
WAYS = ("down", "up")
MOST_FIGURES = 3


def played(size, room, steps):
    """Do steps under a new sky; tell what each tells, "no" for one that is refused, and the sky."""
    sky = Sky(size, room)
    told = []
    for step in steps:
        try:
            told.append(sky.do(step))
        except SkyError:
            told.append("no")
    return told, sky


def written(steps):
    """Write steps as rows of words."""
    return "\n".join([_row_of(step) for step in steps])


def read(text):
    """Read the steps that a text writes."""
    if text == "":
        return []
    steps = []
    for line, row in enumerate(text.split("\n")):
        step = _step_of(row.split(" "))
        if step is None:
            raise BadText(line)
        steps.append(step)
    return steps


def _row_of(step):
    words = []
    for part in step:
        if isinstance(part, tuple):
            words.extend([str(number) for number in part])
        else:
            words.append(str(part))
    return " ".join(words)


def _step_of(words):
    """Tell the step that words write; None if they write none."""
    word, *rest = words
    if word in BARE and not rest:
        return (word,)
    if word in LETTERS and len(rest) == 2 and rest[0] in WAYS and _is_written_number(rest[1]):
        return (word, rest[0], int(rest[1]))
    if not all([_is_written_number(figures) for figures in rest]):
        return None
    numbers = [int(figures) for figures in rest]
    if word == "close" and len(numbers) == 1:
        return (word, numbers[0])
    if word == "tell" and len(numbers) >= 2:
        return (word, numbers[0], tuple(numbers[1:]))
    return None


def _is_written_number(figures):
    """Tell whether a word is a number of one to three figures without a needless 0."""
    if not figures.isascii() or not figures.isdigit() or len(figures) > MOST_FIGURES:
        return False
    return figures == "0" or figures[0] != "0"
