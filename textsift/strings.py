"""Strings of a text, byte by byte, behind their opening quote."""

from textsift.signs import BACKSLASH, QUOTE, SMALL_U, is_digit

# What a byte does to a string.
GOES_ON = 0
CLOSES = 1
WRONG = 2

# What the next byte of a string belongs to.
PLAIN = 0
IN_CHARACTER = 1
IN_ESCAPE = 2
IN_DIGITS = 3
BEFORE_SECOND_HALF = 4
IN_SECOND_HALF = 5

ESCAPES = {34: 34, 92: 92, 47: 47, 98: 8, 102: 12, 110: 10, 114: 13, 116: 9}


def digit_of_sixteen(byte):
    """What a digit of sixteen stands for; None if the byte is none."""
    if is_digit(byte):
        return byte - 48
    if 65 <= byte <= 70:
        return byte - 55
    if 97 <= byte <= 102:
        return byte - 87
    return None


def bytes_behind(lead):
    """How many bytes follow this first byte of a character above 127; 0 if it can't be one."""
    if 0xC2 <= lead <= 0xDF:
        return 1
    if 0xE0 <= lead <= 0xEF:
        return 2
    if 0xF0 <= lead <= 0xF4:
        return 3
    return 0


def least_second(lead):
    """The least second byte: below it the form would not be the shortest."""
    if lead == 0xE0:
        return 0xA0
    if lead == 0xF0:
        return 0x90
    return 0x80


def greatest_second(lead):
    """The greatest second byte: above it lie D800 to DFFF, or what is above 10FFFF."""
    if lead == 0xED:
        return 0x9F
    if lead == 0xF4:
        return 0x8F
    return 0xBF


def in_utf8(code):
    """The bytes of a character in UTF-8."""
    if code < 0x80:
        return [code]
    if code < 0x800:
        return [0xC0 + code // 64, 0x80 + code % 64]
    if code < 0x10000:
        return [0xE0 + code // 4096, 0x80 + code // 64 % 64, 0x80 + code % 64]
    return [0xF0 + code // 262144, 0x80 + code // 4096 % 64, 0x80 + code // 64 % 64, 0x80 + code % 64]


def can_be_code(value, count, first):
    """Whether an escape whose digits so far, this many, stand for the value can go on.

    first is the first half of the pair that the escape has to end, 0 if it ends none.
    """
    if first == 0:
        # Two digits are enough to know a second half, which can't come first.
        return not (count == 2 and 0xDC <= value <= 0xDF)
    if count == 1:
        return value == 0xD
    return value >= 0xDC


class StringReader:
    """One string of a text, as far as it has come; characters holds what was read, in UTF-8."""

    def __init__(self):
        self.characters = []
        self.stage = PLAIN
        self.missing = 0
        self.least = 0
        self.greatest = 0
        self.value = 0
        self.digits = 0
        self.first = 0

    def take(self, byte):
        """Take the byte: GOES_ON or CLOSES; or change nothing and answer WRONG."""
        if self.stage == PLAIN:
            return self.take_plain(byte)
        if self.stage == IN_CHARACTER:
            return self.take_in_character(byte)
        if self.stage == IN_ESCAPE:
            return self.take_in_escape(byte)
        if self.stage == IN_DIGITS:
            return self.take_digit(byte)
        return self.take_before_digits(byte)

    def take_plain(self, byte):
        """Take the first byte of a character, or the closing quote."""
        if byte == QUOTE:
            return CLOSES
        if byte == BACKSLASH:
            self.stage = IN_ESCAPE
            return GOES_ON
        if byte < 32:
            return WRONG
        if byte >= 128:
            return self.take_lead(byte)
        self.characters.append(byte)
        return GOES_ON

    def take_lead(self, byte):
        """Take the first byte of a character above 127."""
        missing = bytes_behind(byte)
        if missing == 0:
            return WRONG
        self.missing = missing
        self.least = least_second(byte)
        self.greatest = greatest_second(byte)
        self.stage = IN_CHARACTER
        self.characters.append(byte)
        return GOES_ON

    def take_in_character(self, byte):
        """Take the second, third or fourth byte of a character."""
        if not self.least <= byte <= self.greatest:
            return WRONG
        self.characters.append(byte)
        self.missing -= 1
        self.least = 0x80
        self.greatest = 0xBF
        if self.missing == 0:
            self.stage = PLAIN
        return GOES_ON

    def take_in_escape(self, byte):
        """Take what stands behind a backslash."""
        if byte == SMALL_U:
            self.begin_digits()
            return GOES_ON
        if byte not in ESCAPES:
            return WRONG
        self.characters.append(ESCAPES[byte])
        self.stage = PLAIN
        return GOES_ON

    def begin_digits(self):
        """Await the four digits of an escape."""
        self.stage = IN_DIGITS
        self.value = 0
        self.digits = 0

    def take_digit(self, byte):
        """Take one of the four digits of an escape."""
        digit = digit_of_sixteen(byte)
        if digit is None:
            return WRONG
        value = self.value * 16 + digit
        if not can_be_code(value, self.digits + 1, self.first):
            return WRONG
        self.value = value
        self.digits += 1
        if self.digits == 4:
            self.end_digits()
        return GOES_ON

    def end_digits(self):
        """Make a character of the four digits, or await the other half of it."""
        if 0xD800 <= self.value <= 0xDBFF:
            self.first = self.value
            self.stage = BEFORE_SECOND_HALF
            return
        code = self.value
        if self.first != 0:
            code = 0x10000 + (self.first - 0xD800) * 1024 + self.value - 0xDC00
            self.first = 0
        self.characters.extend(in_utf8(code))
        self.stage = PLAIN

    def take_before_digits(self, byte):
        """Take the backslash or the u with which the second half of a pair begins."""
        if self.stage == BEFORE_SECOND_HALF and byte == BACKSLASH:
            self.stage = IN_SECOND_HALF
            return GOES_ON
        if self.stage == IN_SECOND_HALF and byte == SMALL_U:
            self.begin_digits()
            return GOES_ON
        return WRONG
