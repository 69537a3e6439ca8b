"""What is told of an event and of a line, as numbers; bytes are told as how many there are, and then they."""

from marklite.lines import BLANK, HEADING, ITEM


def told_bytes(data):
    """Give how many bytes there are, and then they."""
    return [len(data)] + data


def told_event(event):
    """Give the event's kind, its number and its bytes."""
    return [event.kind, event.number] + told_bytes(event.data)


def told_line(line):
    """Give what the line is, then a heading's level or an item's depth, then its label or text."""
    if line.kind == BLANK:
        return [line.kind]
    if line.kind == HEADING or line.kind == ITEM:
        return [line.kind, line.number] + told_bytes(line.text)
    return [line.kind] + told_bytes(line.text)
