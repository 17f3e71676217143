"""The questions that are asked, and how far their paths go along a way.

How far all paths have come along one way is a single whole number, its places: nine rows of 16 bits, one bit a
question. A path of n steps begins in row 8 - n, and each step that is gone moves its bit one row up; so whatever its
length, a path that went along the whole way has its bit in row 8, and that row read as a number is the sum of 2^q.
A path with two dots may have several bits, as it may be gone along one way differently.
"""

MOST_QUESTIONS = 16
ROW = 16
LAST_ROW = 8


class Questions:
    """The questions by number, each with its shut and its steps; and the bits of all their steps.

    at_root: the places at the root's way. wide: the steps with two dots. unshut: the questions that are not shut.
    any_of: by kind, the steps that go along any link. only: by link, the steps that go along that one alone.
    """

    def __init__(self):
        self.held = {}
        self.at_root = 0
        self.wide = 0
        self.unshut = 0
        self.any_of = [0, 0]
        self.only = {}

    def free_number(self):
        """The least number that no question has; None if all are given away."""
        for number in range(MOST_QUESTIONS):
            if number not in self.held:
                return number
        return None

    def put(self, number, shut, steps):
        """Ask a question under that number."""
        self.held[number] = (shut, steps)
        self.lay_out()

    def take_out(self, number):
        """Drop the question of that number."""
        self.held.pop(number)
        self.lay_out()

    def lay_out(self):
        """Lay out the bits anew, as the questions are now."""
        self.at_root = 0
        self.wide = 0
        self.unshut = 0
        self.any_of = [0, 0]
        self.only = {}
        for number in sorted(self.held):
            question = self.held[number]
            if question[0] == 0:
                self.unshut |= 1 << number
            self.lay_out_steps(number, question[1])

    def lay_out_steps(self, number, steps):
        """Lay out the bits of one question's steps, each in the row in which it is to be gone."""
        bit = 1 << (ROW * (LAST_ROW - len(steps)) + number)
        self.at_root |= bit
        for step in steps:
            if step[0]:
                self.wide |= bit
            if step[2] is None:
                self.any_of[step[1]] |= bit
            else:
                link = (step[1], step[2])
                self.only[link] = self.only.get(link, 0) | bit
            bit = bit << ROW

    def along(self, places, link):
        """The places behind one more link of the way: (OBJECT, a member's name) or (ARRAY, an element's number)."""
        fitting = self.any_of[link[0]] | self.only.get(link, 0)
        return ((places & fitting) << ROW) | (places & self.wide)

    def choosing(self, places):
        """Which questions choose the value at a way with these places, as the sum of 2^q."""
        return places >> (ROW * LAST_ROW)

    def all_shut(self, which):
        """Whether these are questions, and all of them are shut."""
        return which != 0 and which & self.unshut == 0
