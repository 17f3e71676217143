"""The bytes that mean something in texts and paths, and the numbers of the two kinds that hold values."""

BLANKS = (32, 9, 10, 13)
QUOTE = 34
STAR = 42
PLUS = 43
COMMA = 44
MINUS = 45
DOT = 46
ZERO = 48
NINE = 57
COLON = 58
BRACKET = 91
BACKSLASH = 92
BRACKET_END = 93
SMALL_U = 117
BRACE = 123
BRACE_END = 125

OBJECT = 0
ARRAY = 1


def is_digit(byte):
    """Whether the byte is one of the ten digits."""
    return ZERO <= byte <= NINE
