"""Events: what a text means, one by one."""

TEXT = 0
CODE_SPAN = 1
PARAGRAPH_BEGINS = 2
PARAGRAPH_ENDS = 3
HEADING_BEGINS = 4
HEADING_ENDS = 5
LIST_BEGINS = 6
LIST_ENDS = 7
ITEM_BEGINS = 8
ITEM_ENDS = 9
CODE_BLOCK_BEGINS = 10
CODE_BLOCK_LINE = 11
CODE_BLOCK_ENDS = 12
EMPHASIS_BEGINS = 13
EMPHASIS_ENDS = 14
LINK_BEGINS = 15
LINK_ENDS = 16


class Event:
    """One event: its kind, its number, its bytes."""

    def __init__(self, kind, number, data):
        self.kind = kind
        self.number = number
        self.data = data


class Events:
    """The events told so far, in their order."""

    def __init__(self):
        self.told = []

    def tell(self, kind, number, data):
        """Put one more event behind the others."""
        self.told.append(Event(kind, number, list(data)))

    def tell_text(self, data):
        """Tell bytes of text; with the text that they follow at once they are one event."""
        if len(self.told) == 0 or self.told[-1].kind != TEXT:
            self.tell(TEXT, 0, [])
        last = self.told[-1]
        last.data.extend(data)
