"""Numbers of a text, byte by byte."""

from textsift.signs import DOT, MINUS, PLUS, ZERO, is_digit

MOST_BYTES = 64

# How far a number has come.
AT_START = 0
AFTER_MINUS = 1
AFTER_ZERO = 2
IN_WHOLE = 3
AFTER_POINT = 4
IN_FRACTION = 5
AFTER_E = 6
AFTER_SIGN = 7
IN_EXPONENT = 8


def stage_behind(stage, byte):
    """How far a number has come with one byte more; None if none goes on so."""
    if is_digit(byte):
        return stage_behind_digit(stage, byte)
    if byte == MINUS and stage == AT_START:
        return AFTER_MINUS
    if byte == DOT and stage in (AFTER_ZERO, IN_WHOLE):
        return AFTER_POINT
    if byte in (69, 101) and stage in (AFTER_ZERO, IN_WHOLE, IN_FRACTION):
        return AFTER_E
    if byte in (PLUS, MINUS) and stage == AFTER_E:
        return AFTER_SIGN
    return None


def stage_behind_digit(stage, byte):
    """How far a number has come with one digit more; None if none may stand there."""
    if stage in (AT_START, AFTER_MINUS):
        return AFTER_ZERO if byte == ZERO else IN_WHOLE
    if stage == AFTER_ZERO:
        return None
    if stage == IN_WHOLE:
        return IN_WHOLE
    if stage in (AFTER_POINT, IN_FRACTION):
        return IN_FRACTION
    return IN_EXPONENT


def is_whole(stage):
    """Whether a number that has come so far may end there."""
    return stage in (AFTER_ZERO, IN_WHOLE, IN_FRACTION, IN_EXPONENT)


class NumberReader:
    """One number of a text, as far as it has come."""

    def __init__(self):
        self.stage = AT_START
        self.figures = []

    def take(self, byte):
        """Take the byte if the number can go on with it; else change nothing and answer False."""
        stage = stage_behind(self.stage, byte)
        if stage is None:
            return False
        least = len(self.figures) + 1
        if not is_whole(stage):
            # A digit must still follow, and has to find room as well.
            least += 1
        if least > MOST_BYTES:
            return False
        self.stage = stage
        self.figures.append(byte)
        return True

    def may_end(self):
        """Whether the number is one as it stands."""
        return is_whole(self.stage)
