"""What the tests share: calls and answers in a readable form, a slow model of the document, and texts made by dice.

The model goes another way than the program. Whether bytes are a text is asked of Python's json with the document's
limits added; whether a beginning can still become a text is tried out with every ending that could be needed; and
what is told is read off the whole text, value by value, with the place of the byte that tells it. A line's model keeps
all bytes and the questions of each, and reads everything anew at every call.
"""

import json
import re

from textsift.sift import answers


def raw(text):
    """Bytes of a text given as str or bytes."""
    return text if isinstance(text, bytes) else text.encode("utf-8")


def row(text):
    return [len(raw(text))] + list(raw(text))


def check(path):
    return [1] + row(path)


def begin():
    return [2]


def ask(path, shut=0):
    return [3, shut] + row(path)


def drop(number):
    return [4, number]


def feed(piece):
    return [5] + row(piece)


def end():
    return [6]


def place():
    return [7]


def depth():
    return [8]


def asked():
    return [9]


def blanks(size):
    """Calls that feed so many blanks."""
    return [feed(" " * min(16000, size - at)) for at in range(0, size, 16000)]


def run(*calls):
    """The answers to the calls, one list each."""
    line = [number for call in calls for number in call]
    if not 1 <= len(calls) <= 60 or len(line) > 69000:
        raise AssertionError("a test's own line is too long")
    handed_in = list(line)
    given = answers(line)
    if line != handed_in:
        raise AssertionError("what was handed in is not the same afterwards")
    result = []
    at = 0
    while at < len(given):
        result.append(given[at + 1:at + 1 + given[at]])
        at += 1 + given[at]
    if at != len(given) or len(result) != len(calls):
        raise AssertionError(f"answers don't fit the calls: {given}")
    return result


def fed(text, *paths):
    """The answer to the whole text, with these paths asked before; a path in a list is asked shut."""
    asks = [ask(path[0], 1) if isinstance(path, list) else ask(path) for path in paths]
    return run(*asks, feed(text))[-1]


# What is told, in words. A text's characters are given as str or bytes.
OBJECT = 0
ARRAY = 1


def opened(which, kind):
    return [1, which, kind]


def closed(kind):
    return [2, kind]


def name(text):
    return [3] + row(text)


def string(which, text):
    return [4, which] + row(text)


def number(which, text):
    return [5, which] + row(text)


def word(which, code):
    return [6, which, code]


def right(*told):
    """The answer of a feed whose bytes were all taken, or of the end of a text."""
    return [0] + [n for thing in told for n in thing]


def wrong(*told):
    """The answer of a feed that met a wrong byte."""
    return [1] + [n for thing in told for n in thing]


# The model, first part: which bytes are a text, and which beginnings can become one.

def number_kept(digits):
    if len(digits) > 64:
        raise ValueError("too long a number")
    return 0


def no_constant(found):
    raise ValueError("no such word")


def sound(value, depth):
    """Whether a decoded value keeps to the depth and has no half of a pair in it."""
    if isinstance(value, str):
        return not any(0xD800 <= ord(sign) <= 0xDFFF for sign in value)
    if isinstance(value, (list, tuple)):
        inside = [part for pair in value for part in pair] if isinstance(value, tuple) else value
        return depth < 32 and all(sound(part, depth + 1) for part in inside)
    return True


def is_text(given):
    try:
        value = json.loads(given.decode("utf-8"), parse_int=number_kept, parse_float=number_kept,
                           parse_constant=no_constant, object_pairs_hook=tuple)
    except ValueError:
        return False
    return sound(value, 0)


WITHIN_STRING = [b"", b"n", b"0", b"00", b"000", b"0000", b"00\\udc00", b"0\\udc00", b"\\udc00", b"udc00", b"dc00",
                 b"c00", b"\x80", b"\x80\x80", b"\x80\x80\x80", b"\xa0\x80", b"\x90\x80\x80"]
ENDINGS = [b"", b"0", b":0", b'"":0', b"ull", b"ll", b"l", b"alse", b"lse", b"se", b"e", b"rue", b"ue"]
ENDINGS += [within + tail for within in WITHIN_STRING for tail in (b'"', b'":0')]


def closers(beginning):
    """The brackets that would close what is open behind the beginning."""
    left = []
    bare = re.sub(rb'"(?:[^"\\]|\\.)*("|\\?$)', b"", beginning, flags=re.DOTALL)
    for byte in bare:
        if byte in b"[{":
            left.append(b"]" if byte == 91 else b"}")
        elif byte in b"]}" and left:
            left.pop()
    return b"".join(reversed(left))


def completed(beginning):
    """Some text that begins so; None if there is none."""
    behind = closers(beginning)
    for ending in ENDINGS:
        if is_text(beginning + ending + behind):
            return beginning + ending + behind
    return None


def longest_beginning(given):
    """How many bytes stand before the first wrong one, and a text that begins with them."""
    whole = completed(b"")
    for size in range(1, len(given) + 1):
        longer = completed(given[:size])
        if longer is None:
            return size - 1, whole
        whole = longer
    return len(given), whole


# The model, second part: what a path is, and which ways it goes along.

STEP = re.compile(rb'(\.\.?)(?:(\*)|((?:(?![.\[\]*"\\])[!-~]){1,32}))|((?:\.\.)?)\[(?:(\*)|(0|[1-9][0-9]{0,5}))\]')


def path_steps(path):
    """The steps as (wide, kind, key), key None for any; or None if it is no path."""
    steps = []
    at = 0
    while at < len(path):
        found = STEP.match(path, at)
        if not found:
            return None
        if found.group(1):
            steps.append((found.group(1) == b"..", OBJECT, found.group(3)))
        else:
            key = None if found.group(5) else int(found.group(6))
            steps.append((found.group(4) == b"..", ARRAY, key))
        at = found.end()
    return steps if len(steps) <= 8 and len(path) <= 300 else None


def goes(steps, way):
    """Whether the steps go along the whole way."""
    if not steps or not way:
        return not steps and not way
    wide, kind, key = steps[0]
    if wide and goes(steps, way[1:]):
        return True
    fits = isinstance(way[0], bytes) == (kind == OBJECT) and key in (None, way[0])
    return fits and goes(steps[1:], way[1:])


# The model, third part: what is told of a whole text.

STRING = re.compile(rb'"(?:[^"\\]|\\.)*"', re.DOTALL)
NUMBER = re.compile(rb"[-+.0-9eE]+")
WORDS = [b"null", b"false", b"true"]


class Model:
    """What is told of a text: things holds (place of the byte that tells it, its numbers)."""

    def __init__(self, text, asked_at):
        self.text = text
        self.asked_at = asked_at
        self.things = []
        self.value(self.blanks(0), (), "chosen")

    def blanks(self, at):
        while at < len(self.text) and self.text[at] in b" \t\n\r":
            at += 1
        return at

    def tell(self, at, numbers):
        self.things.append((at, numbers))

    def value(self, at, way, around):
        """Tell the value that begins there; answer the place behind it."""
        held = self.asked_at(at)
        chosen = [q for q in held if goes(path_steps(held[q][1]), way)]
        which = sum(2 ** q for q in chosen)
        told = around != "nothing" and (around == "all" or which != 0)
        byte = self.text[at:at + 1]
        if byte in (b"[", b"{"):
            kind = ARRAY if byte == b"[" else OBJECT
            if told:
                self.tell(at, opened(which, kind))
            inside = "all" if told else around
            if told and chosen and all(held[q][0] for q in chosen):
                inside = "nothing"
            return self.inside(at + 1, way, inside, kind)
        if byte == b'"':
            end = STRING.match(self.text, at).end()
            things = (end - 1, string(which, json.loads(self.text[at:end].decode("utf-8"))))
        elif byte in (b"n", b"f", b"t"):
            code = [found[:1] for found in WORDS].index(byte)
            end = at + len(WORDS[code])
            things = (end - 1, word(which, code))
        else:
            end = NUMBER.match(self.text, at).end()
            things = (end, number(which, self.text[at:end]))
        if told:
            self.tell(*things)
        return end

    def inside(self, at, way, around, kind):
        """Tell what lies in an array or object; answer the place behind its closing bracket."""
        count = 0
        at = self.blanks(at)
        while self.text[at] not in b"]}":
            link = count
            if kind == OBJECT:
                end = STRING.match(self.text, at).end()
                link = json.loads(self.text[at:end].decode("utf-8")).encode("utf-8")
                if around == "all":
                    self.tell(end - 1, name(link))
                at = self.blanks(self.blanks(end) + 1)
            at = self.blanks(self.value(at, way + (link,), around))
            count += 1
            if self.text[at] in b",":
                at = self.blanks(at + 1)
        if around == "all":
            self.tell(at, closed(kind))
        return at + 1


def modelled(given, asked_at):
    """How many of the bytes stand before the first wrong one, and what they tell: (place, numbers) each.

    asked_at(i) are the questions while byte i is taken, as {q: (shut, path)}.
    """
    size, whole = longest_beginning(given)
    things = [thing for thing in Model(whole, asked_at).things if thing[0] < size]
    return size, things


# The model, fourth part: the calls of a line.

class LineModel:
    """A line's calls: all bytes taken, the questions while each of them was taken, and whether the text is over."""

    def __init__(self):
        self.begin()

    def begin(self):
        self.taken = b""
        self.held = {}
        self.held_at = []
        self.over = False
        return [0]

    def check(self, path):
        steps = path_steps(path)
        return [-1] if steps is None else [0, len(steps)]

    def ask(self, shut, path):
        if shut > 1 or path_steps(path) is None:
            return [-1]
        if len(self.held) == 16:
            return [-2]
        free = min(q for q in range(16) if q not in self.held)
        self.held = {**self.held, free: (shut, path)}
        return [0, free]

    def drop(self, wanted):
        if wanted not in self.held:
            return [-1]
        self.held = {q: self.held[q] for q in self.held if q != wanted}
        return [0]

    def feed(self, piece):
        if len(self.taken) + len(piece) > 65536:
            return [-3]
        if self.over:
            return [-2]
        before = len(self.taken)
        size = self.right_bytes(piece)
        self.over = size < len(piece)
        self.taken += piece[:size]
        self.held_at += [self.held] * size
        return [1 if self.over else 0] + self.told(completed(self.taken), before, len(self.taken))

    def right_bytes(self, piece):
        """How many bytes of the piece stand before a wrong one; behind a wrong beginning none is right again."""
        right_size, wrong_size = 0, len(piece) + 1
        tried = len(piece)
        while wrong_size - right_size > 1:
            if completed(self.taken + piece[:tried]) is None:
                wrong_size = tried
            else:
                right_size = tried
            tried = (right_size + wrong_size) // 2
        return right_size

    def told(self, whole, first, behind):
        """What the bytes in these places tell, the whole text being this."""
        things = Model(whole, lambda at: self.held_at[at] if at < len(self.held_at) else self.held).things
        return [n for at, numbers in things if first <= at < behind for n in numbers]

    def end(self):
        if self.over:
            return [-2]
        self.over = True
        if not is_text(self.taken):
            return [1]
        return [0] + self.told(self.taken, len(self.taken), len(self.taken) + 1)

    def place(self):
        return [0, len(self.taken)]

    def depth(self):
        return [0, len(closers(self.taken))]

    def asked(self):
        return [0] + sorted(self.held)

    def answer(self, call):
        """The answer to a call in the form in which a line has it."""
        if call[0] == 1:
            return self.check(bytes(call[2:]))
        if call[0] == 3:
            return self.ask(call[1], bytes(call[3:]))
        if call[0] == 4:
            return self.drop(call[1])
        if call[0] == 5:
            return self.feed(bytes(call[2:]))
        return {2: self.begin, 6: self.end, 7: self.place, 8: self.depth, 9: self.asked}[call[0]]()


# Texts made by dice.

PATHS = ["", ".a", ".b", ".*", "[0]", "[1]", "[*]", "..a", "..b", "..*", "..[0]", "..[1]", "..[*]", ".a.b", ".a[0]",
         "[0].a", "[1][0]", "..a.b", "..a..a", "..[*]..a", "..[0][0]", ".*.*", "[*][*]", "..*..*", "..a[*]", ".a..[1]",
         "..[*]..[*]..[*]", "..a..b..*", "[*]..b", "..*.a"]
NAMES = ["a", "a", "b", "b", "\\u0061", "", "ab", "\u00e4"]
SCALARS = ["null", "false", "true", "0", "-1", "12", "1.5", "2e3", "-0.1E+2", '""', '"x"', '"\\n"', '"\\u00e4"',
           '"\\ud83d\\ude00"', '"\u20ac"', '"\U0001f600"', '"a b"']
SPOILS = [bytes([byte]) for byte in b' \n[]{},:"\\-+.0159eEnulfatrsxdDcu\x00\x1f\x7f\x80\xbf\xc3\xe0\xed\xf4\xff']


def blank(dice):
    return dice.choice(["", "", "", "", " ", "\n", "\t\r"])


def some_value(dice, depth):
    """A right value as str."""
    kind = dice.randrange(6 if depth > 0 else 3)
    if kind < 3:
        return dice.choice(SCALARS)
    inside = []
    for count in range(dice.randrange(4)):
        value = blank(dice) + some_value(dice, depth - 1) + blank(dice)
        if kind == 5:
            value = blank(dice) + '"' + dice.choice(NAMES) + '"' + blank(dice) + ":" + value
        inside.append(value)
    between = ",".join(inside) or blank(dice)
    return "{" + between + "}" if kind == 5 else "[" + between + "]"


def some_text(dice):
    return raw(blank(dice) + some_value(dice, 4) + blank(dice))


def spoiled(dice, text):
    """The text with a byte changed, put in or left out."""
    at = dice.randrange(len(text) + 1)
    return text[:at] + dice.choice(SPOILS + [b""]) + text[at + dice.randrange(2):]
