"""The calls on one text, as a list of whole numbers, and what they answer."""

from marklite.alone import all_events, all_lines
from marklite.session import Session

BEGIN = 1
FEED = 2
END = 3
EVENT = 4
HTML = 5
ALL = 6
LINES = 7


class UnknownCall(ValueError):
    """A number stands where a call should, and is none."""


def answers(calls):
    """Answer each call in its order: how many numbers are answered, and then these."""
    session = Session()
    answered = []
    at = 0
    while at < len(calls):
        end = call_end(calls, at)
        numbers = answer(session, calls[at:end])
        answered.append(len(numbers))
        answered.extend(numbers)
        at = end
    return answered


def call_end(calls, at):
    """Give the place behind the call that stands at `at`."""
    if calls[at] in (FEED, ALL, LINES):
        return at + 2 + calls[at + 1]
    if calls[at] == EVENT:
        return at + 2
    return at + 1


def answer(session, call):
    """Do one call: its number and what it hands in."""
    if call[0] == BEGIN:
        return session.begin()
    if call[0] == FEED:
        return session.feed(call[2:])
    if call[0] == END:
        return session.end()
    if call[0] == EVENT:
        return session.event(call[1])
    if call[0] == HTML:
        return session.html()
    if call[0] == ALL:
        return all_events(call[2:])
    if call[0] == LINES:
        return all_lines(call[2:])
    raise UnknownCall("there is no call of this number")
