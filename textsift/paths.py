"""Paths: from their bytes to their steps.

A step is a tuple (wide, kind, key). wide: it stands with two dots. kind: OBJECT if it goes along members, ARRAY if
along elements. key: a name as a tuple of bytes, or a number; None where any will do.
"""

from textsift.signs import ARRAY, BACKSLASH, BRACKET, BRACKET_END, DOT, OBJECT, QUOTE, STAR, ZERO, is_digit

MOST_BYTES = 300
MOST_STEPS = 8
MOST_NAME_BYTES = 32
MOST_DIGITS = 6


def steps_of(path):
    """The steps of a path, in order; None if it is no path."""
    if len(path) > MOST_BYTES:
        return None
    steps = []
    at = 0
    while at < len(path):
        found = step_at(path, at)
        if found is None or len(steps) == MOST_STEPS:
            return None
        steps.append(found[0])
        at = found[1]
    return steps


def step_at(path, at):
    """The step that begins there, and where it ends; None if there is no whole step."""
    dots = dots_at(path, at)
    begin = at + dots
    if begin == len(path):
        return None
    if path[begin] == BRACKET and dots != 1:
        return element_step(path, begin + 1, dots == 2)
    if dots == 0:
        return None
    return member_step(path, begin, dots == 2)


def dots_at(path, at):
    """How many dots stand there, two at most."""
    dots = 0
    while dots < 2 and at + dots < len(path) and path[at + dots] == DOT:
        dots += 1
    return dots


def member_step(path, begin, wide):
    """The step along members whose name or star begins there, and where it ends; None if neither does."""
    if path[begin] == STAR:
        return ((wide, OBJECT, None), begin + 1)
    end = begin
    while end < len(path) and may_stand_in_name(path[end]):
        end += 1
    if not 1 <= end - begin <= MOST_NAME_BYTES:
        return None
    return ((wide, OBJECT, tuple(path[begin:end])), end)


def may_stand_in_name(byte):
    """Whether a name in a path can have that byte."""
    return 33 <= byte <= 126 and byte not in (DOT, BRACKET, BRACKET_END, STAR, QUOTE, BACKSLASH)


def element_step(path, begin, wide):
    """The step along elements whose number or star begins there, and where it ends; None if it is none."""
    end = begin
    while end < len(path) and path[end] != BRACKET_END:
        end += 1
    if end == len(path):
        return None
    within = path[begin:end]
    if within == [STAR]:
        return ((wide, ARRAY, None), end + 1)
    if not is_number(within):
        return None
    return ((wide, ARRAY, value_of(within)), end + 1)


def is_number(digits):
    """Whether these bytes are a number as a path can have it."""
    if not 1 <= len(digits) <= MOST_DIGITS:
        return False
    if digits[0] == ZERO and len(digits) > 1:
        return False
    return all([is_digit(byte) for byte in digits])


def value_of(digits):
    """The number that these digits stand for."""
    number = 0
    for byte in digits:
        number = number * 10 + byte - ZERO
    return number
