"""The arrays and objects that a text has begun and not closed, one object each."""

from textsift.signs import ARRAY, OBJECT

# How much is told of what lies in one: what is chosen, all, or nothing as it is left out.
CHOSEN = 0
ALL = 1
NOTHING = 2


class Level:
    """An array or object that has begun: what is told of its inside, and how far the text has come in it."""

    def __init__(self, kind, places, telling):
        self.kind = kind
        self.places = places
        self.telling = telling
        self.name = ()
        self.begun = 0

    def count_value(self):
        """Count the value that begins in it."""
        self.begun += 1

    def link(self):
        """The last link of the way to the value that began in it last, or whose name was read last."""
        if self.kind == ARRAY:
            return (ARRAY, self.begun - 1)
        return (OBJECT, self.name)
