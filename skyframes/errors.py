"""The refusals of the program."""


class SkyError(ValueError):
    """Any refusal."""


class BadSize(SkyError):
    """No number from 8 to 24."""


class BadRoom(SkyError):
    """No number from 1 to 60."""


class BadStream(SkyError):
    """No number from 0 to 3."""


class BadData(SkyError):
    """No tuple of one to twenty numbers from 0 to 255."""


class BadFrame(SkyError):
    """No frame of the size asked for."""


class BadPlan(SkyError):
    """Makes or windows that are no plan."""


class BadFrames(SkyError):
    """A list of frames whose frame `at` can't stand there."""

    def __init__(self, at):
        super().__init__(f"frame {at} can't stand in the list")
        self.at = at


class BadMarks(SkyError):
    """A list of marks whose mark `at` is none."""

    def __init__(self, at):
        super().__init__(f"mark {at} of the list is none")
        self.at = at


class BadLog(SkyError):
    """A log whose entry `at` is none."""

    def __init__(self, at):
        super().__init__(f"entry {at} of the log is none")
        self.at = at


class BadText(SkyError):
    """A text whose row `line` is no step."""

    def __init__(self, line):
        super().__init__(f"row {line} of the text is no step")
        self.line = line
