"""Blocks: the code blocks, headings, items and paragraphs that lines make."""

from marklite.lines import BLANK, FENCE, FENCE_LENGTH, HEADING, PLAIN
from marklite.lines import run_length
from marklite.signs import BACKQUOTE, NEWLINE, trimmed


class Block:
    """One block: the kind and number of the line that begins it, its label or text, its lines of code."""

    def __init__(self, kind, number, text, rows):
        self.kind = kind
        self.number = number
        self.text = text
        self.rows = rows


def read_blocks(lines):
    """Give the blocks in their order; a blank line is none."""
    blocks = []
    at = 0
    while at < len(lines):
        line = lines[at]
        end = block_end(lines, at)
        if line.kind == FENCE:
            blocks.append(Block(FENCE, 0, line.text, [inner.row for inner in lines[at + 1:end]]))
            # The line that closes the code belongs to nothing.
            end += 1
        elif line.kind != BLANK:
            blocks.append(Block(line.kind, line.number, joined_texts(lines[at:end]), []))
        at = end
    return blocks


def block_end(lines, at):
    """Give the place of the first line behind `at` that the block which begins there doesn't hold."""
    kind = lines[at].kind
    end = at + 1
    if kind == FENCE:
        while end < len(lines) and not closes_code(lines[end]):
            end += 1
    elif kind != BLANK and kind != HEADING:
        while end < len(lines) and lines[end].kind == PLAIN:
            end += 1
    return end


def closes_code(line):
    """Tell whether the line is three backquotes when it is trimmed."""
    row = trimmed(line.row)
    return len(row) == FENCE_LENGTH and run_length(row, 0, BACKQUOTE) == FENCE_LENGTH


def joined_texts(lines):
    """Give the lines' texts that aren't empty, with a newline between."""
    text = []
    for line in lines:
        # Only the first line can have an empty text: an item's may be, a plain line's never is.
        if len(text) > 0:
            text.append(NEWLINE)
        text.extend(line.text)
    return text
