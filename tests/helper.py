"""What the tests share: calls as lists of numbers, answers taken apart, events by name, texts by a fixed rule."""

from marklite.notes import answers

LONGEST_TEXT = 16384
LONGEST_ALONE = 2048
MOST_CALLS = 400

SIGNS = b"!\"#$%&'()*+,-./:;<=>?@[\\]^_`{|}~"
LETTERS_AND_DIGITS = b"ABCDEFGHIJKLMNOPQRSTUVWXYZabcdefghijklmnopqrstuvwxyz0123456789"

BEGIN = [1]
END = [3]
HTML = [5]


def feed(piece):
    return [2, len(piece)] + list(piece)


def event(place):
    return [4, place]


def all_of(data):
    return [6, len(data)] + list(data)


def lines_of(data):
    return [7, len(data)] + list(data)


def ask(*calls):
    """Make one line of the calls; give the numbers that each answered, and see that the line is as it was."""
    line = []
    for call in calls:
        line = line + call
    before = list(line)
    answered = answers(line)
    if line != before:
        raise AssertionError("what was handed in was changed")
    return taken_apart(answered, len(calls))


def taken_apart(answered, count):
    found = []
    at = 0
    while at < len(answered):
        size = answered[at]
        found.append(answered[at + 1:at + 1 + size])
        at = at + 1 + size
    if at != len(answered) or len(found) != count:
        raise AssertionError(f"{count} calls answered {len(found)} times, {len(answered)} numbers, {at} told")
    return found


def events_after(*calls):
    """Give the events of the text that the calls leave; they are to end it."""
    count = ask(*calls)[-1][0]
    room = MOST_CALLS - len(calls)
    events = []
    for first in range(0, count, room):
        looks = [event(place) for place in range(first, min(first + room, count))]
        events = events + [as_event(numbers) for numbers in ask(*calls, *looks)[len(calls):]]
    return events


def as_event(numbers):
    kind, number, size = numbers[:3]
    if len(numbers) != 3 + size:
        raise AssertionError(f"{numbers} tells {size} bytes and has others")
    return (kind, number, bytes(numbers[3:]))


def events_of(text):
    """Give the text's events as (kind, number, bytes)."""
    return events_after(feed(text), END)


def html_after(*calls):
    """Give the HTML of the text that the calls leave; they are to end it."""
    size, *page = ask(*calls, HTML)[-1]
    if len(page) != size:
        raise AssertionError(f"{size} bytes are told, {len(page)} follow")
    return bytes(page)


def html_of(data):
    return html_after(feed(data), END)


def all_events(data):
    """Give the events that `all` tells of the text, as (kind, number, bytes)."""
    return as_events(ask(all_of(data))[0])


def as_events(numbers):
    events, at = [], 1
    while at < len(numbers):
        behind = at + 3 + numbers[at + 2]
        events.append(as_event(numbers[at:behind]))
        at = behind
    if len(events) != numbers[0]:
        raise AssertionError(f"{numbers[0]} events are told, {len(events)} follow")
    return events


def told_lines(data):
    """Give what `lines` tells of the text: (0,), (1, label), (2, level, text), (3, depth, text), (4, text)."""
    return as_lines(ask(lines_of(data))[0])


def as_lines(numbers):
    lines, at = [], 1
    while at < len(numbers):
        # Ahead of the bytes stands what the line is, and of a heading and an item its level or depth.
        said = numbers[at:at + (2 if numbers[at] in (2, 3) else 1)]
        at += len(said)
        if said[0] != 0:
            size = numbers[at]
            said.append(bytes(numbers[at + 1:at + 1 + size]))
            if len(said[-1]) != size:
                raise AssertionError(f"{size} bytes are told, {len(said[-1])} follow")
            at += 1 + size
        lines.append(tuple(said))
    if len(lines) != numbers[0]:
        raise AssertionError(f"{numbers[0]} lines are told, {len(lines)} follow")
    return lines


def running(text):
    """Give the events of a text that is one paragraph, without its beginning and end."""
    events = events_of(text)
    if events[0] != P or events[-1] != P_END or events.count(P) != 1:
        raise AssertionError(f"{text} is not one paragraph: {events}")
    return events[1:-1]


P = (2, 0, b"")
P_END = (3, 0, b"")
LIST = (6, 0, b"")
LIST_END = (7, 0, b"")
ITEM = (8, 0, b"")
ITEM_END = (9, 0, b"")
PRE_END = (12, 0, b"")
EM = (13, 0, b"")
EM_END = (14, 0, b"")
LINK_END = (16, 0, b"")


def text(data):
    return (0, 0, data)


def code(data):
    return (1, 0, data)


def heading(level, data=b""):
    inner = [text(data)] if data else []
    return [(4, level, b"")] + inner + [(5, level, b"")]


def paragraph(data):
    return [P, text(data), P_END]


def pre(label, *rows):
    return [(10, 0, label)] + [(11, 0, row) for row in rows] + [PRE_END]


def items(*depths_and_texts):
    """Give the events of one list whose items are told as (depth, text), by nesting them as told."""
    events = []
    before = -1
    for depth, data in depths_and_texts:
        if depth > before:
            events = events + [LIST]
        else:
            events = events + [ITEM_END] + [LIST_END, ITEM_END] * (before - depth)
        events = events + [ITEM] + ([text(data)] if data else [])
        before = depth
    return events + [ITEM_END, LIST_END] * (before + 1)


def link(address):
    return (15, 0, address)


def backslashed(data):
    """Put a backslash before each sign."""
    return b"".join(bytes([92, byte]) if byte in SIGNS else bytes([byte]) for byte in data)


# What ends what: the kinds of the events that begin something.
ENDS = {2: 3, 4: 5, 6: 7, 8: 9, 10: 12, 13: 14, 15: 16}


class Numbers:
    """Numbers by a fixed rule, the same at each run."""

    def __init__(self, seed):
        self.state = seed

    def below(self, bound):
        self.state = (self.state * 6364136223846793005 + 1442695040888963407) % 2**64
        return (self.state >> 33) % bound

    def one_of(self, choices):
        return choices[self.below(len(choices))]


PIECES = (
    (b"a", b"b", b"Z", b"7", b" ", b"\n", b"*", b"`", b"[", b"]", b"(", b")", b"\\", b"#", b"-"),
    (b"*", b"*", b"a", b" ", b"[", b"](b)", b"`"),
    (b"[", b"]", b"(", b")", b"](", b"[a](b)", b"*", b"\\", b"`", b"c", b" "),
    (b"`", b"``", b"```", b"\\", b"a", b"\n", b" ", b"9"),
    (b"- ", b"-", b"  ", b"  - ", b"    - ", b" ", b"\n", b"\n", b"\n- ", b"\n  - ", b"\n    - ", b"a", b"\n\n"),
    (b"\n```", b"\n``` ", b"```\n", b"\n```\n", b"a", b"\n", b" ", b"\n- ", b"\n# ", b"\t", b"\r"),
    (b"# ", b"#", b"##", b"###### ", b"\n", b"\n# ", b"\n#", b"a", b"\t", b"\r", b" "),
    (b"\\", b"\\*", b"\\[", b"\\]", b"\\(", b"\\)", b"\\`", b"*", b"[", b"]", b"(", b")", b"`", b"a", b"\n"),
    (b"[", b"x", b"](", b"\\)", b"*", b")", b"\t", b" ", b"\\", b"`", b"\n", b"\xff", b"\x00", b"[x*](y)*"),
)


def made_text(numbers, longest=40):
    """Make a text of one of the sets of pieces, now and then of bytes of every kind."""
    count = numbers.below(longest)
    if numbers.below(10) == 0:
        return bytes(numbers.below(256) for _ in range(count))
    pieces = numbers.one_of(PIECES)
    return b"".join(numbers.one_of(pieces) for _ in range(count))


def made_texts(seed, count, longest=40):
    numbers = Numbers(seed)
    return [made_text(numbers, longest) for _ in range(count)]
