"""The events of many texts, held against the rules written a second time, by regular expressions."""

import re
import unittest

from tests.helper import events_of, made_texts

# Each thing is one sign of a text: a plain byte is itself, all others lie above the bytes.
STAR, OPENING, CLOSING = "\u2001", "\u2002", "\u2003"
BACKSLASHED, CODE, LINK = 0x3000, 0x10000, 0x40000

SIGN = rb"[!-/:-@\[-`{-~]"
THING = re.compile(rb"\\(" + SIGN + rb")|`(?!`)([^`]+)`|(.)", re.DOTALL)
LINKS = re.compile(
    f"{OPENING}([^{OPENING}{CLOSING}]+){CLOSING}"
    rf"\(([^{OPENING}{CLOSING}\t\n\r )" f"{chr(CODE)}-{chr(LINK - 1)}" r"]*)\)"
)
EMPHASIS = re.compile(rf"{STAR}([^\t\n\r ](?:.*?[^\t\n\r ])??){STAR}", re.DOTALL)
KINDS_OF_BYTES = {"*": STAR, "[": OPENING, "]": CLOSING}
BYTES_OF_KINDS = {STAR: 42, OPENING: 91, CLOSING: 93}


class Running:
    """The running text, and the events it means."""

    def __init__(self, data):
        self.codes, self.links, self.events = [], [], []
        things = "".join(self.thing(match) for match in THING.finditer(data))
        self.tell(LINKS.sub(self.link, things))

    def thing(self, match):
        sign, inner, byte = match.groups()
        if sign:
            return chr(BACKSLASHED + sign[0])
        if inner:
            self.codes.append(inner)
            return chr(CODE + len(self.codes) - 1)
        return KINDS_OF_BYTES.get(chr(byte[0]), chr(byte[0]))

    def link(self, match):
        self.links.append((match.group(1), bytes(self.byte(thing) for thing in match.group(2))))
        return chr(LINK + len(self.links) - 1)

    def byte(self, thing):
        return BYTES_OF_KINDS.get(thing, ord(thing) % 0x100)

    def tell(self, things):
        at = 0
        for match in EMPHASIS.finditer(things):
            self.show(things[at:match.start()])
            self.events.append((13, 0, b""))
            self.show(match.group(1))
            self.events.append((14, 0, b""))
            at = match.end()
        self.show(things[at:])

    def show(self, things):
        for thing in things:
            if ord(thing) >= LINK:
                inner, address = self.links[ord(thing) - LINK]
                self.events.append((15, 0, address))
                self.tell(inner)
                self.events.append((16, 0, b""))
            elif ord(thing) >= CODE:
                self.events.append((1, 0, self.codes[ord(thing) - CODE]))
            else:
                self.events.append((0, 0, bytes([self.byte(thing)])))


FENCE = re.compile(rb"```(.*)", re.DOTALL)
HEADING = re.compile(rb"(#{1,6})(?:[ \t\r](.*))?", re.DOTALL)
ITEM = re.compile(rb"( *)-(?:[ \t\r](.*))?", re.DOTALL)


def kind_of(line):
    if not line.strip(b" \t\r"):
        return "blank", 0, b""
    for kind, form in (("fence", FENCE), ("heading", HEADING), ("item", ITEM)):
        match = form.fullmatch(line)
        if match:
            return kind, len(match.groups()[0]), (match.groups()[-1] or b"").strip(b" \t\r")
    return "plain", 0, line.strip(b" \t\r")


def model(data):
    lines = data.split(b"\n")
    events, depth = [], 0
    while lines:
        line = lines.pop(0)
        kind, number, inner = kind_of(line)
        if kind == "blank":
            continue
        if kind != "item":
            events, depth = events + [(9, 0, b""), (7, 0, b"")] * depth, 0
        if kind == "fence":
            events.append((10, 0, inner))
            while lines and lines[0].strip(b" \t\r") != b"```":
                events.append((11, 0, lines.pop(0)))
            events.append((12, 0, b""))
            lines = lines[1:]
            continue
        while kind != "heading" and lines and kind_of(lines[0])[0] == "plain":
            inner = inner + b"\n" + lines.pop(0).strip(b" \t\r")
        inner = Running(inner[1:] if inner[:1] == b"\n" else inner).events
        if kind == "heading":
            events = events + [(4, number, b"")] + inner + [(5, number, b"")]
        elif kind == "plain":
            events = events + [(2, 0, b"")] + inner + [(3, 0, b"")]
        else:
            said = number // 2
            events = events + [(9, 0, b""), (7, 0, b"")] * max(0, depth - said - 1)
            events = events + [(9, 0, b"") if said < depth else (6, 0, b""), (8, 0, b"")] + inner
            depth = min(said, depth) + 1
    return joined(events + [(9, 0, b""), (7, 0, b"")] * depth)


def joined(events):
    found = []
    for kind, number, data in events:
        if kind == 0 and found and found[-1][0] == 0:
            found[-1] = (0, 0, found[-1][2] + data)
        else:
            found.append((kind, number, data))
    return found


class TestModel(unittest.TestCase):
    def test_made_texts(self):
        for data in made_texts(21, 6000):
            self.assertEqual(events_of(data), model(data), data)

    def test_short_texts(self):
        for data in made_texts(22, 6000, 9):
            self.assertEqual(events_of(data), model(data), data)

    def test_longer_texts(self):
        for data in made_texts(23, 60, 700):
            self.assertEqual(events_of(data), model(data), data)

    def test_all_short_texts_of_a_few_bytes(self):
        for some in (b"*a \n", b"`a\\*", b"[a]()", b"# a\n", b"- a\n"):
            for data in self.all_texts(some, 5):
                self.assertEqual(events_of(data), model(data), data)

    def test_all_ends_of_links(self):
        for data in self.all_texts(b"a)](* \\", 4):
            self.assertEqual(events_of(b"*[a](" + data), model(b"*[a](" + data), data)

    def all_texts(self, some, longest):
        found = [b""]
        for data in found:
            if len(data) < longest:
                found.extend(data + bytes([byte]) for byte in some)
        return found


if __name__ == "__main__":
    unittest.main()
