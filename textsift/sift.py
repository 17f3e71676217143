"""The calls of one line, and their answers."""

from textsift.paths import steps_of
from textsift.questions import Questions
from textsift.reader import Reader

MOST_BYTES = 65536

CHECK = 1
BEGIN = 2
ASK = 3
DROP = 4
FEED = 5
END = 6
PLACE = 7
DEPTH = 8
ASKED = 9


class UnknownCall(ValueError):
    """A call's number is none that there is."""


class Sifter:
    """The questions and the text of a line. Each call answers its row of numbers.

    over: the text was ended or found wrong, so that no more of it can come.
    """

    def __init__(self):
        self.questions = Questions()
        self.reader = Reader(self.questions)
        self.taken = 0
        self.over = False

    def begin(self):
        """Begin anew, with no bytes and no questions."""
        self.questions = Questions()
        self.reader = Reader(self.questions)
        self.taken = 0
        self.over = False
        return [0]

    def ask(self, shut, path):
        """Ask the path; it holds from the next value on."""
        steps = steps_of(path)
        if shut > 1 or steps is None:
            return [-1]
        number = self.questions.free_number()
        if number is None:
            return [-2]
        self.questions.put(number, shut, steps)
        self.reader.retrace()
        return [0, number]

    def drop(self, number):
        """Drop the question of that number."""
        if number not in self.questions.held:
            return [-1]
        self.questions.take_out(number)
        self.reader.retrace()
        return [0]

    def feed(self, piece):
        """Take the bytes of the piece, up to the first wrong one, and tell what they tell."""
        if self.taken + len(piece) > MOST_BYTES:
            return [-3]
        if self.over:
            return [-2]
        told = []
        for byte in piece:
            if not self.reader.take(byte, told):
                self.over = True
                return [1] + told
            self.taken += 1
        return [0] + told

    def end(self):
        """End the text, whether its bytes are one or not, and tell what only its end makes sure."""
        if self.over:
            return [-2]
        self.over = True
        told = []
        if not self.reader.end_text(told):
            return [1]
        return [0] + told

    def place(self):
        """How many bytes have been taken."""
        return [0, self.taken]

    def depth(self):
        """How many arrays and objects have begun and are not closed."""
        return [0, len(self.reader.levels)]

    def asked(self):
        """The numbers of all questions, rising."""
        return [0] + sorted(self.questions.held)


def check(path):
    """How many steps the path has."""
    steps = steps_of(path)
    if steps is None:
        return [-1]
    return [0, len(steps)]


def answers(calls):
    """For each of the calls in order: how many numbers are answered, and these."""
    sifter = Sifter()
    answered = []
    at = 0
    while at < len(calls):
        end = end_of_call(calls, at)
        answer = answer_to(sifter, calls[at:end])
        answered.append(len(answer))
        answered.extend(answer)
        at = end
    return answered


def end_of_call(calls, at):
    """Where the call ends that begins there."""
    number = calls[at]
    if number in (BEGIN, END, PLACE, DEPTH, ASKED):
        return at + 1
    if number == DROP:
        return at + 2
    if number == ASK:
        return at + 3 + calls[at + 2]
    if number in (CHECK, FEED):
        return at + 2 + calls[at + 1]
    raise UnknownCall(f"there is no call {number}")


def answer_to(sifter, call):
    """The answer to one call, which is its number, its whole numbers and its row behind the row's length."""
    number = call[0]
    if number == CHECK:
        return check(call[2:])
    if number == BEGIN:
        return sifter.begin()
    if number == ASK:
        return sifter.ask(call[1], call[3:])
    if number == DROP:
        return sifter.drop(call[1])
    if number == FEED:
        return sifter.feed(call[2:])
    if number == END:
        return sifter.end()
    if number == PLACE:
        return sifter.place()
    if number == DEPTH:
        return sifter.depth()
    return sifter.asked()
