"""The promises P1 to P6 over the whole program: all seven calls together."""

import re
import unittest

from marklite.notes import answers
from tests.helper import BEGIN, END, ENDS, HTML, LETTERS_AND_DIGITS, LONGEST_ALONE, LONGEST_TEXT, Numbers, P, P_END
from tests.helper import SIGNS, all_events, all_of, ask, backslashed, event, events_after, events_of, feed, html_after
from tests.helper import html_of, lines_of, made_text, made_texts, text
from tests.test_html import html_of_events, written
from tests.test_model import kind_of, model

KINDS_OF_LINES = ("blank", "fence", "heading", "item", "plain")

# What an HTML is made of, by the kind of the event; what stands between tags, or in one, has no < > ".
FORMS = [(kind, re.compile(form)) for kind, form in (
    (12, rb"</pre>\n"), (1, rb"<code>([^<>\"]+)</code>"), (2, rb"<p>"), (3, rb"</p>\n"), (4, rb"<h([1-6])>"),
    (5, rb"</h([1-6])>\n"), (6, rb"<ul>\n"), (7, rb"</ul>\n"), (8, rb"<li>"), (9, rb"</li>\n"),
    (10, rb"<pre title=\"([^<>\"]*)\">\n"), (13, rb"<em>"), (14, rb"</em>"), (15, rb"<a href=\"([^<>\"]*)\">"),
    (16, rb"</a>"), (0, rb"([^<>\"]+)"),
)]
ROW = re.compile(rb"([^<>\"\n]*)\n")
ENTITY = re.compile(rb"&(amp;|lt;|gt;|quot;)?")
BYTES_OF_ENTITIES = {b"amp;": b"&", b"lt;": b"<", b"gt;": b">", b"quot;": b"\""}

# The kinds of calls in a made line of calls: those that may change the text, and those that only look.
CHANGES = ("feed", "feed", "feed", "end", "begin")
LOOKS = ("event", "event", "html", "all", "lines")


def read_back(page):
    """Read the events back from an HTML; there is one way at most."""
    events, at = [], 0
    while at < len(page):
        kind, match = next_part(page, at, bool(events) and events[-1][0] in (10, 11))
        inner = match.group(1) if match.groups() else b""
        if kind in (4, 5):
            events.append((kind, int(inner), b""))
        else:
            events.append((kind, 0, ENTITY.sub(lambda found: BYTES_OF_ENTITIES[found.group(1)], inner)))
        at = match.end()
    return events


def next_part(page, at, in_code):
    for kind, form in FORMS[:1] + [(11, ROW)] if in_code else FORMS:
        match = form.match(page, at)
        if match:
            return kind, match
    raise AssertionError(f"nothing of an HTML stands at {at} of {page}")


def rude(data):
    """Put bytes into a text that could be taken for parts of a tag."""
    for plain, other in ((b"a", b"<p>"), (b"b", b"\">"), (b"c", b"&lt;"), (b"x", b"</a>"), (b"Z", b"&")):
        data = data.replace(plain, other)
    return data


class Account:
    """What each call is to answer: a plain account, with the events that the second writing of the rules tells."""

    def __init__(self):
        self.fed, self.ended = b"", False

    def begin(self):
        self.fed, self.ended = b"", False
        return [0]

    def feed(self, data):
        if self.ended:
            return [-2]
        if len(self.fed) + len(data) > LONGEST_TEXT:
            return [-1]
        self.fed += data
        return [0]

    def end(self):
        self.ended = True
        return [len(model(self.fed))]

    def event(self, place):
        events = model(self.fed) if self.ended else []
        return self.numbers(*events[place]) if place < len(events) else [-3]

    def html(self):
        page = html_of_events(model(self.fed))
        return [len(page)] + list(page) if self.ended else [-3]

    def all(self, data):
        if len(data) > LONGEST_ALONE:
            return [-1]
        events = model(data)
        return sum([self.numbers(*told) for told in events], [len(events)])

    def lines(self, data):
        if len(data) > LONGEST_ALONE:
            return [-1]
        rows = data.split(b"\n")
        return sum([self.line(*kind_of(row)) for row in rows], [len(rows)])

    def numbers(self, kind, number, inner):
        return [kind, number, len(inner)] + list(inner)

    def line(self, name, number, inner):
        kind = KINDS_OF_LINES.index(name)
        said = {"blank": [], "heading": [number], "item": [number // 2]}.get(name, [])
        return [kind] + said + ([len(inner)] + list(inner) if name != "blank" else [])


def made_call(numbers, account, names):
    """Make a call of one of the names; give it, and what the account answers to it."""
    name = numbers.one_of(names)
    if name == "begin":
        return BEGIN, account.begin()
    if name == "end":
        return END, account.end()
    if name == "html":
        return HTML, account.html()
    if name == "event":
        place = numbers.below(12)
        return event(place), account.event(place)
    data = made_text(numbers, 20)
    if numbers.below(20) == 0:
        data = b"a" * (LONGEST_TEXT + 1 if name == "feed" else LONGEST_ALONE + 1)
    if name == "feed":
        return feed(data), account.feed(data)
    return (all_of(data), account.all(data)) if name == "all" else (lines_of(data), account.lines(data))


class TestManyLinesOfCalls(unittest.TestCase):
    """Lines of all seven calls by a fixed rule, held against the account."""

    def test_they_answer_as_the_account(self):
        numbers = Numbers(51)
        for _ in range(700):
            account = Account()
            made = [made_call(numbers, account, CHANGES + LOOKS) for _ in range(1 + numbers.below(25))]
            self.assertEqual(ask(*[call for call, told in made]), [told for call, told in made])

    def test_all_and_lines_of_many_texts(self):
        account = Account()
        for data in made_texts(52, 2500):
            self.assertEqual(ask(all_of(data), lines_of(data)), [account.all(data), account.lines(data)], data)

    def test_texts_close_to_the_bound(self):
        account = Account()
        for data in made_texts(53, 12, 1500):
            for size in (LONGEST_ALONE, LONGEST_ALONE + 1):
                some = (data * LONGEST_ALONE + b"a" * LONGEST_ALONE * 2)[:size]
                self.assertEqual(ask(all_of(some), lines_of(some)), [account.all(some), account.lines(some)], some)

    def test_two_lines_of_calls_know_nothing_of_each_other(self):
        numbers = Numbers(54)
        for _ in range(100):
            first, second = [self.made_line(numbers) for _ in range(2)]
            alone = answers(list(second))
            told = answers(first)
            self.assertEqual(answers(second), alone)
            self.assertEqual(answers(first), told)

    def test_what_is_handed_in_stays_the_same(self):
        numbers = Numbers(55)
        for _ in range(100):
            calls = self.made_line(numbers)
            before = list(calls)
            told = answers(calls)
            copy = list(told)
            told.append(7)
            told[0] = 99
            self.assertEqual(calls, before)
            self.assertEqual(answers(calls), copy)
            self.assertEqual({type(number) for number in copy}, {int})

    def made_line(self, numbers):
        account = Account()
        return sum([made_call(numbers, account, CHANGES + LOOKS)[0] for _ in range(1 + numbers.below(15))], [])


class TestPieces(unittest.TestCase):
    """P1: the pieces in which a text came make no difference, whatever is looked at between them."""

    def test_every_cut_in_two(self):
        for data in made_texts(61, 60, 14) + [b"- a\r\n  - `<b\\*` [c](d\\))\n```\"e\n &f ```\n```\n# *g*"]:
            whole, page = events_of(data), html_of(data)
            for cut in range(len(data) + 1):
                pieces = [feed(data[:cut]), HTML, all_of(data[:cut]), lines_of(data[cut:]), feed(data[cut:]), END]
                self.assertEqual(html_after(*pieces), page, (data, cut))
                self.assertEqual(events_after(*pieces), whole, (data, cut))

    def test_byte_by_byte_and_at_once_by_itself(self):
        for data in made_texts(62, 500):
            pieces = [feed(bytes([byte])) for byte in data]
            self.assertEqual(events_after(*pieces, END), all_events(data), data)
            self.assertEqual(html_after(*pieces, END), html_of(data), data)


class TestNesting(unittest.TestCase):
    """P2: what begins last ends first, in the events that all tells and in the tags."""

    def test_events_that_all_tells(self):
        for data in made_texts(63, 1500):
            begun = []
            for kind, number, inner in all_events(data):
                if kind in ENDS:
                    begun.append((ENDS[kind], number))
                elif kind in ENDS.values():
                    self.assertEqual(begun.pop(), (kind, number), data)
            self.assertEqual(begun, [], data)

    def test_tags(self):
        for data in made_texts(64, 1500):
            begun = []
            for closing, name in re.findall(rb"<(/?)([a-z]+[1-6]?)[^>]*>", html_of(rude(data))):
                if closing:
                    self.assertEqual(begun.pop(), name, data)
                else:
                    begun.append(name)
            self.assertEqual(begun, [], data)


class TestLettersAndDigits(unittest.TestCase):
    """P3: each letter and digit stands in the events as often as in the text."""

    def test_in_what_all_tells(self):
        for data in made_texts(65, 1500):
            told = b"".join(inner for kind, number, inner in all_events(data))
            self.assert_the_same(told, data)

    def test_in_the_html(self):
        for data in made_texts(66, 1500):
            told = b"".join(inner for kind, number, inner in read_back(html_of(rude(data))))
            self.assert_the_same(told, rude(data))

    def assert_the_same(self, told, data):
        for byte in LETTERS_AND_DIGITS:
            self.assertEqual(told.count(byte), data.count(byte), (data, byte))


class TestOneParagraph(unittest.TestCase):
    """P4: texts that are one paragraph."""

    def test_without_signs_and_newlines(self):
        without = bytes(byte for byte in range(256) if byte not in SIGNS + b"\n")
        numbers = Numbers(67)
        for _ in range(800):
            data = self.made(numbers, without)
            if data.strip(b" \t\r"):
                self.assert_one_paragraph(data, data.strip(b" \t\r"))
            else:
                self.assertEqual((all_events(data), html_of(data)), ([], b""))

    def test_a_backslash_before_each_sign(self):
        without = bytes(byte for byte in range(256) if byte not in b" \t\r\n")
        numbers = Numbers(68)
        for _ in range(800):
            data = self.made(numbers, without if numbers.below(3) == 0 else SIGNS + b"ab7\x00\xff")
            if data:
                self.assert_one_paragraph(backslashed(data), data)

    def test_the_longest(self):
        self.assert_one_paragraph(b"\\<" * (LONGEST_ALONE // 2), b"<" * (LONGEST_ALONE // 2))
        self.assert_one_paragraph(b"a" * LONGEST_ALONE, b"a" * LONGEST_ALONE)

    def made(self, numbers, some):
        return bytes(numbers.one_of(some) for _ in range(numbers.below(30)))

    def assert_one_paragraph(self, data, told):
        self.assertEqual(all_events(data), [P, text(told), P_END], data)
        self.assertEqual(html_of(data), b"<p>" + written(told) + b"</p>\n", data)


class TestNoTagsBetweenTags(unittest.TestCase):
    """P5: what stands between tags brings no tag with it: from the HTML just the events can be read back."""

    def test_made_texts(self):
        for data in made_texts(69, 2000):
            self.assert_read_back(data)

    def test_texts_with_parts_of_tags(self):
        for data in made_texts(70, 1500):
            self.assert_read_back(rude(data))

    def test_tags_everywhere(self):
        for tag in (b"<em>", b"</em>", b"</p>", b"<p>", b"</pre>", b"</code>", b"</a>", b"<ul>", b"</li>", b"</h1>",
                    b"\">", b"<", b">", b"\"", b"&", b"&lt;", b"&amp;quot;", b"<a\thref=\"x\">", b"<!--", b"-->"):
            form = b"X\n# X\n- X\n  - *X*\n```X\nX\n```\n`X` [X](X) *X [X](X)*"
            self.assert_read_back(form.replace(b"X", tag))
            self.assert_read_back(form.replace(b"X", b"a" + tag + b"a"))
            self.assert_read_back(form.replace(b"X", backslashed(tag)))

    def test_every_byte_everywhere(self):
        for byte in range(256):
            self.assert_read_back(b"aX\n# aX\n- aX\n```aX\naX\n```\n`aX` [aX](aX) *aX*".replace(b"X", bytes([byte])))

    def test_long_texts(self):
        for data in made_texts(71, 8, 3000):
            self.assert_read_back(rude(data)[:LONGEST_TEXT])

    def test_reading_back_tells_what_has_tags_in_it(self):
        wrong = (b"<p>a<b</p>\n", b"<p>\"</p>\n", b"<p>a>b</p>\n", b"<a href=\"b\"c\">d</a>", b"<pre title=\"<\">\n")
        for page in wrong:
            with self.assertRaises(AssertionError):
                read_back(page)
        self.assertNotEqual(read_back(b"<p><em>a</em></p>\n"), [P, text(b"<em>a</em>"), P_END])

    def assert_read_back(self, data):
        self.assertEqual(read_back(html_of(data)), events_of(data), data)


class TestNothingChanged(unittest.TestCase):
    """P6: what's refused, what only looks changes nothing: without it all other calls answer the same."""

    def test_looks_left_out(self):
        numbers = Numbers(72)
        for _ in range(500):
            account = Account()
            changes = [made_call(numbers, account, CHANGES)[0] for _ in range(1 + numbers.below(8))]
            self.assert_the_same(changes, numbers, LOOKS)

    def test_refusals_left_out(self):
        numbers = Numbers(73)
        for _ in range(500):
            account = Account()
            made = [made_call(numbers, account, CHANGES + LOOKS) for _ in range(20)]
            told = ask(*[call for call, answer in made])
            kept = [at for at in range(len(made)) if told[at][0] >= 0]
            if kept:
                self.assertEqual(ask(*[made[at][0] for at in kept]), [told[at] for at in kept])

    def test_every_refusal_between_two_looks(self):
        long = b"a" * (LONGEST_ALONE + 1)
        begun = [HTML, event(0), all_of(long), lines_of(long), feed(b"a" * (LONGEST_TEXT + 1))]
        ended = [event(9), all_of(long), lines_of(long), feed(b"a"), feed(b"a" * (LONGEST_TEXT + 1)), feed(b"")]
        for first in begun:
            for second in ended:
                told = ask(feed(b"*<a>"), first, feed(b"*"), END, HTML, second, HTML, event(2), END)
                self.assertLess(told[1][0], 0)
                self.assertLess(told[5][0], 0)
                page = b"<p><em>&lt;a&gt;</em></p>\n"
                self.assertEqual(told[4], [len(page)] + list(page))
                self.assertEqual(told[6:], [told[4], [0, 0, 3, 60, 97, 62], [5]])

    def assert_the_same(self, changes, numbers, names):
        account = Account()
        calls, places = [], []
        for change in changes:
            for _ in range(numbers.below(4)):
                calls.append(made_call(numbers, account, names)[0])
            places.append(len(calls))
            calls.append(change)
        looked = ask(*calls)
        self.assertEqual([looked[at] for at in places], ask(*changes))
        ends = [[END], [END, HTML]]
        self.assertEqual([ask(*calls, *end)[-1] for end in ends], [ask(*changes, *end)[-1] for end in ends])


if __name__ == "__main__":
    unittest.main()
