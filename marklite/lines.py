"""Lines: what a text falls into at its newlines, and what each of them is."""

from marklite.signs import BACKQUOTE, BLANKS, HYPHEN, NEWLINE, NUMBER_SIGN, SPACE, trimmed

BLANK = 0
FENCE = 1
HEADING = 2
ITEM = 3
PLAIN = 4

FENCE_LENGTH = 3
DEEPEST_HEADING = 6


class Line:
    """One line: its kind, its level or depth (else 0), its label or text, and its bytes as they are."""

    def __init__(self, kind, number, text, row):
        self.kind = kind
        self.number = number
        self.text = text
        self.row = row


def read_lines(text):
    """Give the text's lines; there is always one more than there are newlines."""
    return [read_line(row) for row in split_rows(text)]


def split_rows(text):
    """Give what stands before, between and behind the newlines."""
    rows = []
    begin = 0
    for at, byte in enumerate(text):
        if byte == NEWLINE:
            rows.append(text[begin:at])
            begin = at + 1
    rows.append(text[begin:])
    return rows


def read_line(row):
    """Tell what the line is: the first kind that fits."""
    text = trimmed(row)
    if len(text) == 0:
        return Line(BLANK, 0, text, row)
    if run_length(row, 0, BACKQUOTE) >= FENCE_LENGTH:
        return Line(FENCE, 0, trimmed(row[FENCE_LENGTH:]), row)
    level = run_length(row, 0, NUMBER_SIGN)
    if 1 <= level <= DEEPEST_HEADING and is_blank_or_end(row, level):
        return Line(HEADING, level, trimmed(row[level:]), row)
    spaces = run_length(row, 0, SPACE)
    if run_length(row, spaces, HYPHEN) == 1 and is_blank_or_end(row, spaces + 1):
        return Line(ITEM, spaces // 2, trimmed(row[spaces + 1:]), row)
    return Line(PLAIN, 0, text, row)


def run_length(row, begin, byte):
    """Tell how often the byte stands from `begin` on, one at once behind the other."""
    at = begin
    while at < len(row) and row[at] == byte:
        at += 1
    return at - begin


def is_blank_or_end(row, at):
    """Tell whether a blank or nothing stands at the place."""
    return at == len(row) or row[at] in BLANKS
