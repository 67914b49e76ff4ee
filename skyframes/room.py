"""Whether the room aboard is enough for what is made, and the fewest beats of windows for it."""

from skyframes.checks import check_makes, check_room, check_windows


def most_kept(makes, windows):
    """Tell how many frames are kept at the most, behind what is made."""
    check_makes(makes)
    check_windows(windows, len(makes))
    return max(_kept_at_beats(makes, windows), default=0)


def short_at(makes, windows, room):
    """Tell the first beat at which more frames are kept than the room; None if none."""
    check_makes(makes)
    check_windows(windows, len(makes))
    check_room(room)
    return _first_short(makes, windows, room)


def least_windows(makes, room):
    """Tell the latest windows of the fewest beats by which the room is enough; None if none are."""
    check_makes(makes)
    check_room(room)
    windows = _windows_of(_latest_beats(makes, room))
    # Even the latest may be ahead of all beats, or of anything being kept: then none goes at it.
    return windows if _first_short(makes, windows, room) is None else None


def _kept_at_beats(makes, windows):
    """Tell of each beat how many frames are kept, behind what is made at it."""
    sends = {beat: True for begin, end in windows for beat in range(begin, end)}
    rows = []
    kept = 0
    for beat, many in enumerate(makes):
        kept += many
        rows.append(kept)
        if kept > 0 and beat in sends:
            kept -= 1
    return rows


def _first_short(makes, windows, room):
    for beat, kept in enumerate(_kept_at_beats(makes, windows)):
        if kept > room:
            return beat
    return None


def _latest_beats(makes, room):
    """Tell, of each frame that has to go for the room, the latest beat for it, rising; some below 0
    if there are too few."""
    due = []
    made = 0
    for beat, many in enumerate(makes):
        made += many
        due.extend([beat] * (made - room - len(due)))
    beats = []
    ahead = len(makes)
    for beat in reversed(due):
        # One goes at a beat, and one that is due at a beat has to go ahead of it.
        ahead = min(beat, ahead) - 1
        beats.append(ahead)
    return sorted(beats)


def _windows_of(beats):
    """Tell rising beats as windows, side by side ones as one."""
    windows = []
    for beat in beats:
        if windows and windows[-1][1] == beat:
            windows[-1] = (windows[-1][0], beat + 1)
        else:
            windows.append((beat, beat + 1))
    return tuple(windows)
