"""The promises P1, P2, P3, P4 and P6 over many texts, as far as begin, feed, end and event show them."""

import unittest

from tests.helper import BEGIN, END, ENDS, LETTERS_AND_DIGITS, LONGEST_TEXT, Numbers, P, P_END, SIGNS, ask, backslashed
from tests.helper import event, events_after, events_of, feed, made_text, made_texts, text

BLANKS = b" \t\r"

# What may stand at once in what; None is the text itself.
INSIDE = {
    None: (2, 4, 6, 10), 2: (0, 1, 13, 15), 4: (0, 1, 13, 15), 6: (8,), 8: (0, 1, 13, 15, 6), 10: (11,),
    13: (0, 1, 15), 15: (0, 1, 13),
}


class TestPieces(unittest.TestCase):
    """P1: the pieces in which a text came make no difference."""

    def test_byte_by_byte(self):
        for data in made_texts(1, 400):
            pieces = [feed(bytes([byte])) for byte in data]
            self.assertEqual(events_after(*pieces, END), events_of(data), data)

    def test_every_cut_in_two(self):
        for data in made_texts(2, 60, 16) + [b"a\r\n- `b\\*` [c](d\\))\n```e\n *f* ```\n```\n# *g*"]:
            whole = events_of(data)
            for cut in range(len(data) + 1):
                self.assertEqual(events_after(feed(data[:cut]), feed(data[cut:]), END), whole, (data, cut))

    def test_many_cuts(self):
        numbers = Numbers(3)
        for _ in range(600):
            data = made_text(numbers)
            self.assertEqual(events_after(*self.cut(data, numbers), END), events_of(data), data)

    def test_a_long_text_in_pieces(self):
        data = (b"- a *b*\n  - `c` [d](e)\n\n# f\n```\ng\n```\n" * 400)[:LONGEST_TEXT]
        pieces = [feed(data[at:at + 97]) for at in range(0, len(data), 97)]
        self.assertEqual(events_after(*pieces, END), events_of(data))

    def cut(self, data, numbers):
        pieces, at = [], 0
        while at < len(data):
            size = numbers.below(7)
            pieces.append(feed(data[at:at + size]))
            at += size
        return pieces


class TestNesting(unittest.TestCase):
    """P2: what begins last ends first."""

    def test_made_texts(self):
        for data in made_texts(4, 3000):
            self.assert_nested(data)

    def test_long_texts(self):
        for data in made_texts(5, 9, 4000):
            self.assert_nested(data[:LONGEST_TEXT])

    def assert_nested(self, data):
        begun = [(None, 0)]
        for kind, number, inner in events_of(data):
            outer, level = begun[-1]
            if kind == ENDS.get(outer):
                self.assertEqual(number, level, data)
                begun.pop()
            else:
                self.assertIn(kind, INSIDE[outer], data)
                if kind in ENDS:
                    begun.append((kind, number))
            self.assert_form(kind, number, inner, data)
        self.assertEqual(begun, [(None, 0)], data)

    def assert_form(self, kind, number, inner, data):
        if kind in (4, 5):
            self.assertIn(number, (1, 2, 3, 4, 5, 6), data)
        else:
            self.assertEqual(number, 0, data)
        if kind in (0, 1):
            self.assertNotEqual(inner, b"", data)
        elif kind not in (10, 11, 15):
            self.assertEqual(inner, b"", data)


class TestText(unittest.TestCase):
    """A text event has as many bytes as there are: none stands at once behind another."""

    def test_no_text_behind_text(self):
        for data in made_texts(6, 2000):
            kinds = [kind for kind, number, inner in events_of(data)]
            self.assertNotIn((0, 0), list(zip(kinds, kinds[1:])), data)


class TestLettersAndDigits(unittest.TestCase):
    """P3: each letter and digit stands in the events as often as in the text."""

    def test_made_texts(self):
        for data in made_texts(7, 3000):
            self.assert_kept(data)

    def test_each_of_them_everywhere(self):
        form = b"a\n# a\n- a\na\n```a\na\n  a\n```\n*a* `a` [a](a) \\a [a](\\a) [a *a*"
        for byte in LETTERS_AND_DIGITS:
            self.assert_kept(form.replace(b"a", bytes([byte])))
        self.assert_kept(LETTERS_AND_DIGITS * 3)

    def test_long_texts(self):
        for data in made_texts(8, 9, 4000):
            self.assert_kept(data[:LONGEST_TEXT])

    def assert_kept(self, data):
        told = b"".join(inner for kind, number, inner in events_of(data))
        for byte in LETTERS_AND_DIGITS:
            self.assertEqual(told.count(byte), data.count(byte), (data, byte))


class TestOneParagraph(unittest.TestCase):
    """P4: texts that are one paragraph."""

    def test_without_signs_and_newlines(self):
        without = bytes(byte for byte in range(256) if byte not in SIGNS and byte != 10)
        numbers = Numbers(9)
        for _ in range(1500):
            data = self.made(numbers, without if numbers.below(2) else b" \t\rab7\x00\xff")
            if data.strip(BLANKS):
                self.assert_one_paragraph(data, data.strip(BLANKS))
            else:
                self.assertEqual(events_of(data), [])

    def test_a_backslash_before_each_sign(self):
        without = bytes(byte for byte in range(256) if byte not in b" \t\r\n")
        numbers = Numbers(10)
        for _ in range(1500):
            data = self.made(numbers, without if numbers.below(3) == 0 else SIGNS + b"ab7\x00\xff")
            if data:
                self.assert_one_paragraph(backslashed(data), data)

    def test_a_backslash_before_what_would_have_a_meaning(self):
        for data in (b"#", b"######", b"-", b"```", b"```a", b"`a`", b"*a*", b"[a](b)", b"\\", b"\\\\*", b"a\\"):
            self.assert_one_paragraph(backslashed(data), data)

    def test_every_byte_alone(self):
        for byte in range(256):
            data = bytes([byte])
            if byte not in b" \t\r\n":
                self.assert_one_paragraph(backslashed(data), data)

    def test_the_longest(self):
        self.assert_one_paragraph(b"\\*" * (LONGEST_TEXT // 2), b"*" * (LONGEST_TEXT // 2))
        self.assert_one_paragraph(b"a b" * 5461, b"a b" * 5461)

    def made(self, numbers, some):
        return bytes(numbers.one_of(some) for _ in range(numbers.below(30)))

    def assert_one_paragraph(self, data, told):
        self.assertEqual(events_of(data), [P, text(told), P_END], data)


class TestNothingChanged(unittest.TestCase):
    """P6: what's refused, what only looks changes nothing."""

    def test_looks_ahead_of_the_end(self):
        numbers = Numbers(12)
        for _ in range(300):
            data = made_text(numbers)
            cut = numbers.below(len(data) + 1)
            calls = [event(0), feed(data[:cut]), event(0), event(numbers.below(9)), feed(data[cut:]), event(1), END]
            self.assertEqual(events_after(*calls), events_of(data), data)
            self.assertEqual([told for call, told in zip(calls, ask(*calls)) if call[0] == 4], [[-3]] * 4)

    def test_looks_and_refusals_behind_the_end(self):
        numbers = Numbers(13)
        for _ in range(300):
            data = made_text(numbers)
            whole = events_of(data)
            looks = [event(numbers.below(len(whole) + 3)) for _ in range(5)]
            calls = [feed(data), END] + looks + [feed(b"*b*\n"), event(len(whole)), feed(b""), END]
            self.assertEqual(events_after(*calls), whole, data)
            self.assertEqual(ask(*calls)[-4:], [[-2], [-3], [-2], [len(whole)]], data)

    def test_a_feed_that_is_too_long(self):
        for data in made_texts(14, 60):
            calls = [feed(data), feed(b"x" * (LONGEST_TEXT + 1 - len(data))), feed(b"\nab"), END]
            self.assertEqual(ask(*calls)[1], [-1])
            self.assertEqual(events_after(*calls), events_of(data + b"\nab"), data)

    def test_a_refused_feed_behind_the_end_is_not_there_after_begin(self):
        calls = [feed(b"a"), END, feed(b"b"), BEGIN, feed(b"c"), END]
        self.assertEqual(events_after(*calls), [P, text(b"c"), P_END])


if __name__ == "__main__":
    unittest.main()
