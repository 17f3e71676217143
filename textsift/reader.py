"""The text, byte by byte: whether it can go on so, and what is told of it."""

from textsift.figures import NumberReader
from textsift.levels import ALL, CHOSEN, NOTHING, Level
from textsift.signs import ARRAY, BLANKS, BRACE, BRACE_END, BRACKET, BRACKET_END, COLON, COMMA, OBJECT, QUOTE
from textsift.strings import CLOSES, WRONG, StringReader

MOST_DEPTH = 32

# What the next byte belongs to; where it is one of the first six, it may also be a blank.
VALUE = 0
VALUE_OR_END = 1
NAME = 2
NAME_OR_END = 3
COLON_BEHIND_NAME = 4
BEHIND_VALUE = 5
IN_NAME = 6
IN_STRING = 7
IN_NUMBER = 8
IN_WORD = 9

# Each stands at the number that is told of it.
WORDS = ("null", "false", "true")


def word_begun_by(byte):
    """The number of the word that begins with that letter; None if none does."""
    for number, word in enumerate(WORDS):
        if ord(word[0]) == byte:
            return number
    return None


class Reader:
    """A text as far as it has come. which and is_told speak of the value that began last."""

    def __init__(self, questions):
        self.questions = questions
        self.levels = []
        self.awaited = VALUE
        self.which = 0
        self.is_told = False
        self.string = StringReader()
        self.number = NumberReader()
        self.word = 0
        self.spelled = 0

    def retrace(self):
        """Go along the way to where the text is once more, as the questions are others now."""
        places = self.questions.at_root
        for level in self.levels:
            level.places = places
            places = self.questions.along(places, level.link())

    def take(self, byte, told):
        """Take the byte and put behind told what it tells; or, if it is wrong, change nothing and answer False."""
        if self.awaited == IN_STRING:
            return self.take_in_string(byte, told)
        if self.awaited == IN_NAME:
            return self.take_in_name(byte, told)
        if self.awaited == IN_NUMBER:
            return self.take_in_number(byte, told)
        if self.awaited == IN_WORD:
            return self.take_in_word(byte, told)
        return byte in BLANKS or self.take_sign(byte, told)

    def take_sign(self, byte, told):
        """Take a byte that is no blank, between names and values."""
        if self.awaited == BEHIND_VALUE:
            return self.take_behind_value(byte, told)
        if self.awaited == COLON_BEHIND_NAME:
            return self.take_colon(byte)
        if self.awaited in (NAME, NAME_OR_END):
            return self.take_before_name(byte, told)
        if self.awaited == VALUE_OR_END and byte == BRACKET_END:
            self.close_level(told)
            return True
        return self.begin_value(byte, told)

    def take_colon(self, byte):
        """Take the colon between a name and its value."""
        if byte != COLON:
            return False
        self.awaited = VALUE
        return True

    def take_before_name(self, byte, told):
        """Take the quote that begins a name, or the end of an object without members."""
        if byte == QUOTE:
            self.string = StringReader()
            self.awaited = IN_NAME
            return True
        if byte == BRACE_END and self.awaited == NAME_OR_END:
            self.close_level(told)
            return True
        return False

    def may_follow_value(self, byte):
        """Whether the byte, no blank, may stand behind a value where the text is."""
        if len(self.levels) == 0:
            return False
        if self.levels[-1].kind == ARRAY:
            return byte in (COMMA, BRACKET_END)
        return byte in (COMMA, BRACE_END)

    def take_behind_value(self, byte, told):
        """Take a comma or the end of an array or object."""
        if not self.may_follow_value(byte):
            return False
        if byte != COMMA:
            self.close_level(told)
        elif self.levels[-1].kind == ARRAY:
            self.awaited = VALUE
        else:
            self.awaited = NAME
        return True

    def begin_value(self, byte, told):
        """Take the first byte of a value."""
        if byte == BRACE:
            return self.begin_level(OBJECT, told)
        if byte == BRACKET:
            return self.begin_level(ARRAY, told)
        if byte == QUOTE:
            self.string = StringReader()
            self.awaited = IN_STRING
            self.settle_questions()
            return True
        word = word_begun_by(byte)
        if word is None:
            return self.begin_number(byte)
        self.word = word
        self.spelled = 1
        self.awaited = IN_WORD
        self.settle_questions()
        return True

    def begin_number(self, byte):
        """Take the first byte of a number."""
        number = NumberReader()
        if not number.take(byte):
            return False
        self.number = number
        self.awaited = IN_NUMBER
        self.settle_questions()
        return True

    def begin_level(self, kind, told):
        """Take the opening bracket of an array or object."""
        if len(self.levels) == MOST_DEPTH:
            return False
        places = self.settle_questions()
        if self.is_told:
            told.extend([1, self.which, kind])
        self.levels.append(Level(kind, places, self.telling_within()))
        self.awaited = VALUE_OR_END if kind == ARRAY else NAME_OR_END
        return True

    def telling_outside(self):
        """How much is told of what lies in the innermost array or object; of the root what is chosen."""
        if len(self.levels) == 0:
            return CHOSEN
        return self.levels[-1].telling

    def telling_within(self):
        """How much is told of what lies in the array or object that begins."""
        if self.telling_outside() == NOTHING:
            return NOTHING
        if not self.is_told:
            return CHOSEN
        if self.questions.all_shut(self.which):
            return NOTHING
        return ALL

    def settle_questions(self):
        """Settle which questions choose the value that begins and whether it is told; answer its places."""
        places = self.questions.at_root
        if len(self.levels) > 0:
            level = self.levels[-1]
            level.count_value()
            places = self.questions.along(level.places, level.link())
        self.which = self.questions.choosing(places)
        telling = self.telling_outside()
        self.is_told = telling == ALL or (telling == CHOSEN and self.which != 0)
        return places

    def close_level(self, told):
        """Take the closing bracket of the innermost array or object."""
        level = self.levels.pop()
        if level.telling == ALL:
            told.extend([2, level.kind])
        self.awaited = BEHIND_VALUE

    def take_in_name(self, byte, told):
        """Take a byte of a member's name, or its closing quote."""
        done = self.string.take(byte)
        if done == CLOSES:
            level = self.levels[-1]
            characters = self.string.characters
            level.name = tuple(characters)
            if level.telling == ALL:
                told.extend([3, len(characters)] + characters)
            self.awaited = COLON_BEHIND_NAME
        return done != WRONG

    def take_in_string(self, byte, told):
        """Take a byte of a string that is a value, or its closing quote."""
        done = self.string.take(byte)
        if done == CLOSES:
            self.tell_bytes(4, self.string.characters, told)
            self.awaited = BEHIND_VALUE
        return done != WRONG

    def take_in_number(self, byte, told):
        """Take a byte of a number, or the one behind it, which tells it."""
        if self.number.take(byte):
            return True
        # A wrong byte is not taken, so it must not tell the number before it.
        if not self.number.may_end() or not (byte in BLANKS or self.may_follow_value(byte)):
            return False
        self.end_number(told)
        return self.take(byte, told)

    def end_number(self, told):
        """Tell the number that has come to its end."""
        self.tell_bytes(5, self.number.figures, told)
        self.awaited = BEHIND_VALUE

    def take_in_word(self, byte, told):
        """Take a further letter of null, false or true."""
        word = WORDS[self.word]
        if ord(word[self.spelled]) != byte:
            return False
        self.spelled += 1
        if self.spelled == len(word):
            if self.is_told:
                told.extend([6, self.which, self.word])
            self.awaited = BEHIND_VALUE
        return True

    def tell_bytes(self, sign, row, told):
        """Tell a string or number, if it is told."""
        if self.is_told:
            told.extend([sign, self.which, len(row)] + row)

    def end_text(self, told):
        """Whether the bytes taken are a text; if so, put behind told what its end tells."""
        if len(self.levels) > 0:
            return False
        if self.awaited == IN_NUMBER and self.number.may_end():
            self.end_number(told)
        return self.awaited == BEHIND_VALUE
