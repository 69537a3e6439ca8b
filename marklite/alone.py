"""Texts by themselves: all events and all lines of one, whatever text a session has."""

from marklite.lines import read_lines
from marklite.meaning import events_of
from marklite.telling import told_event, told_line

LONGEST_ALONE = 2048


def all_events(text):
    """Tell how many events the text means, and each of them; -1: the text is too long."""
    if len(text) > LONGEST_ALONE:
        return [-1]
    return one_by_one([told_event(event) for event in events_of(text)])


def all_lines(text):
    """Tell how many lines the text has, and what each of them is; -1: the text is too long."""
    if len(text) > LONGEST_ALONE:
        return [-1]
    return one_by_one([told_line(line) for line in read_lines(text)])


def one_by_one(parts):
    """Give how many parts there are, and then the numbers of each."""
    numbers = [len(parts)]
    for part in parts:
        numbers.extend(part)
    return numbers
