"""A session: a text that comes in pieces and, once it has ended, its events and its HTML."""

from marklite.markup import html_of
from marklite.meaning import events_of
from marklite.telling import told_bytes, told_event

LONGEST_TEXT = 16384


class Session:
    """One text and the calls on it; each gives the numbers that are answered."""

    def __init__(self):
        self.text = []
        self.ended = False
        self.events = []

    def begin(self):
        """Make the text new again."""
        self.text = []
        self.ended = False
        self.events = []
        return [0]

    def feed(self, piece):
        """Put the bytes behind the text's; -2: it has ended, -1: it would become too long."""
        if self.ended:
            return [-2]
        if len(self.text) + len(piece) > LONGEST_TEXT:
            return [-1]
        self.text.extend(piece)
        return [0]

    def end(self):
        """End the text, and tell how many events it means."""
        # An ended text doesn't change any more, so it is read only once.
        if not self.ended:
            self.events = events_of(self.text)
            self.ended = True
        return [len(self.events)]

    def event(self, place):
        """Tell the event at the place, from 0 on; -3: the text hasn't ended, or there is no such event."""
        if not self.ended or place >= len(self.events):
            return [-3]
        return told_event(self.events[place])

    def html(self):
        """Tell the text's HTML; -3: the text hasn't ended."""
        if not self.ended:
            return [-3]
        return told_bytes(html_of(self.events))
