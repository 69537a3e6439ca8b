"""Markup: the HTML of events."""

from marklite.events import HEADING_BEGINS, HEADING_ENDS

# By an event's kind: what's written ahead of its bytes (of a heading: its level), and what behind them.
TAGS = (
    ("", ""),
    ("<code>", "</code>"),
    ("<p>", ""),
    ("</p>\n", ""),
    ("<h", ">"),
    ("</h", ">\n"),
    ("<ul>\n", ""),
    ("</ul>\n", ""),
    ("<li>", ""),
    ("</li>\n", ""),
    ('<pre title="', '">\n'),
    ("", "\n"),
    ("</pre>\n", ""),
    ("<em>", ""),
    ("</em>", ""),
    ('<a href="', '">'),
    ("</a>", ""),
)

# The bytes that could be taken for a part of a tag, and what's written for them.
ESCAPES = {34: "&quot;", 38: "&amp;", 60: "&lt;", 62: "&gt;"}


def html_of(events):
    """Give the bytes of the events' HTML."""
    page = []
    for event in events:
        page.extend(written(TAGS[event.kind][0]))
        if event.kind == HEADING_BEGINS or event.kind == HEADING_ENDS:
            page.extend(written(str(event.number)))
        page.extend(escaped(event.data))
        page.extend(written(TAGS[event.kind][1]))
    return page


def written(signs):
    """Give the bytes of a text of US-ASCII."""
    return [ord(sign) for sign in signs]


def escaped(data):
    """Give the bytes as they stand between tags, or in one."""
    page = []
    for byte in data:
        if byte in ESCAPES:
            page.extend(written(ESCAPES[byte]))
        else:
            page.append(byte)
    return page
