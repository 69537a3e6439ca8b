"""Things: what running text is read into, ahead of its links and its emphasis."""

from marklite.signs import BACKQUOTE, BACKSLASH, CLOSING_BRACKET, OPENING_BRACKET, STAR_SIGN
from marklite.signs import WIDE_SPACES, is_sign

BYTE = 0
BACKSLASHED = 1
CODE = 2
STAR = 3
OPENING = 4
CLOSING = 5
LINK = 6


class Thing:
    """One thing: its kind, the bytes it stands for (a link's: its address), and a link's own things."""

    def __init__(self, kind, data, inner):
        self.kind = kind
        self.data = data
        self.inner = inner


def read_things(text):
    """Read running text from the left into things."""
    things = []
    at = 0
    while at < len(text):
        end = code_end(text, at)
        if end > at:
            things.append(Thing(CODE, text[at + 1:end], []))
            at = end + 1
        elif is_backslashed(text, at):
            things.append(Thing(BACKSLASHED, [text[at + 1]], []))
            at += 2
        else:
            things.append(Thing(kind_of_byte(text[at]), [text[at]], []))
            at += 1
    return things


def is_backslashed(text, at):
    """Tell whether a backslash and a sign behind it stand at the place."""
    return text[at] == BACKSLASH and at + 1 < len(text) and is_sign(text[at + 1])


def code_end(text, at):
    """Give the place of the backquote that ends the code span begun at `at`; `at` itself if none is."""
    if text[at] != BACKQUOTE:
        return at
    end = at + 1
    while end < len(text) and text[end] != BACKQUOTE:
        end += 1
    return end if at + 1 < end < len(text) else at


def kind_of_byte(byte):
    """Tell what thing a byte is that no backslash and no backquote takes."""
    if byte == STAR_SIGN:
        return STAR
    if byte == OPENING_BRACKET:
        return OPENING
    if byte == CLOSING_BRACKET:
        return CLOSING
    return BYTE


def is_byte(thing, byte):
    """Tell whether the thing is just this byte, without a backslash before it."""
    return thing.kind == BYTE and thing.data[0] == byte


def is_wide_space(thing):
    """Tell whether the thing is a blank or a newline; a code span never is."""
    return thing.kind == BYTE and thing.data[0] in WIDE_SPACES
