"""Running text: backslashes, code spans, links and emphasis."""

import unittest

from tests.helper import EM, EM_END, LINK_END, LONGEST_TEXT, SIGNS, code, link, running, text

BLANKS = (b" ", b"\t", b"\r")


def linked(address, data):
    return [link(address), text(data), LINK_END]


def stressed(*events):
    return [EM] + list(events) + [EM_END]


class Case(unittest.TestCase):
    def reads(self, data, *events):
        self.assertEqual(running(data), list(events), data)

    def is_text(self, data):
        self.reads(data, text(data))


class TestBackslash(Case):
    def test_before_each_sign(self):
        self.assertEqual(len(SIGNS), 32)
        for sign in SIGNS:
            self.reads(bytes([92, sign]), text(bytes([sign])))
            self.reads(bytes([97, 92, sign, 98]), text(bytes([97, sign, 98])))

    def test_before_anything_else_it_is_itself(self):
        for byte in range(256):
            if byte not in SIGNS:
                self.is_text(bytes([97, 92, byte, 98]))

    def test_before_a_newline_it_is_itself(self):
        self.reads(b"a\\\nb", text(b"a\\\nb"))
        self.reads(b"a\\ \r\nb", text(b"a\\\nb"))

    def test_at_the_end_it_is_itself(self):
        self.is_text(b"\\")
        self.is_text(b"a\\")
        self.reads(b"a\\\\\\", text(b"a\\\\"))

    def test_one_backslash_takes_the_next(self):
        self.reads(b"\\\\*a*", text(b"\\"), *stressed(text(b"a")))
        self.reads(b"\\\\\\*a*", text(b"\\*a*"))
        self.reads(b"\\a\\*", text(b"\\a*"))

    def test_a_backslashed_sign_has_no_meaning_of_its_own(self):
        self.reads(b"\\*a*", text(b"*a*"))
        self.reads(b"*a\\*", text(b"*a*"))
        self.reads(b"\\`a`", text(b"`a`"))
        self.reads(b"\\[a](b)", text(b"[a](b)"))
        self.reads(b"[a\\](b)", text(b"[a](b)"))
        self.reads(b"[a]\\(b)", text(b"[a](b)"))
        self.reads(b"[a](b\\)", text(b"[a](b)"))


class TestCodeSpans(Case):
    def test_with_another_backquote_further_on(self):
        self.reads(b"`a`", code(b"a"))
        self.reads(b"a `b c` d", text(b"a "), code(b"b c"), text(b" d"))
        self.reads(b"` a `", code(b" a "))
        self.reads(b"` `", code(b" "))

    def test_without_another_it_is_itself(self):
        self.is_text(b"`")
        self.is_text(b"`a")
        self.is_text(b"a`")
        self.reads(b"`a`b`", code(b"a"), text(b"b`"))
        self.is_text(b"`*a")

    def test_with_another_at_once_it_is_itself(self):
        self.is_text(b"``")
        self.is_text(b"a```")
        self.is_text(b"a``b")
        self.reads(b"``a`", text(b"`"), code(b"a"))
        self.reads(b"a```b`", text(b"a``"), code(b"b"))
        self.reads(b"`a``", code(b"a"), text(b"`"))
        self.reads(b"``a``", text(b"`"), code(b"a"), text(b"`"))

    def test_spans_side_by_side_are_events_of_their_own(self):
        self.reads(b"`a``b`", code(b"a"), code(b"b"))
        self.reads(b"`a`b`c`", code(b"a"), text(b"b"), code(b"c"))

    def test_what_is_between_is_as_it_is(self):
        for inner in (b"*a*", b"\\*", b"[a](b)", b"\\", b"a\\", b"<&>\"", b"\t\r", b"\x00\xff", b"# a", b"- a"):
            self.reads(b"x`" + inner + b"`", text(b"x"), code(inner))

    def test_a_backslash_in_it_takes_no_backquote(self):
        self.reads(b"`a\\`b", code(b"a\\"), text(b"b"))
        self.reads(b"`\\`", code(b"\\"))

    def test_a_backslashed_backquote_begins_none_but_may_end_one(self):
        self.reads(b"\\`a`b`", text(b"`a"), code(b"b"))
        self.reads(b"`a\\``", code(b"a\\"), text(b"`"))

    def test_it_goes_over_newlines(self):
        self.reads(b"a `b \n  c` d", text(b"a "), code(b"b\nc"), text(b" d"))

    def test_it_comes_ahead_of_links_and_emphasis(self):
        self.reads(b"*a`b*`", text(b"*a"), code(b"b*"))
        self.reads(b"[a`](b)`", text(b"[a"), code(b"](b)"))
        self.reads(b"[a](b`)`", text(b"[a](b"), code(b")"))


class TestLinks(Case):
    def test_a_link(self):
        self.reads(b"[a](b)", *linked(b"b", b"a"))
        self.reads(b"x[a b](c/d?e#f)y", text(b"x"), *linked(b"c/d?e#f", b"a b"), text(b"y"))
        self.reads(b"[a](b)[c](d)", *linked(b"b", b"a"), *linked(b"d", b"c"))

    def test_it_has_one_thing_or_more(self):
        self.is_text(b"[](a)")
        self.reads(b"[ ](a)", *linked(b"a", b" "))
        self.reads(b"[\n](a)", *linked(b"a", b"\n"))
        self.reads(b"[\\]](a)", *linked(b"a", b"]"))
        self.reads(b"[(](a)", *linked(b"a", b"("))

    def test_its_address_may_be_empty(self):
        self.reads(b"[a]()", *linked(b"", b"a"))

    def test_all_its_parts_stand_at_once(self):
        for data in (b"[a] (b)", b"[a]x(b)", b"[a]\n(b)", b"[a]", b"[a](", b"[a](b", b"a](b)", b"[a(b)", b"[", b"]("):
            self.is_text(data)

    def test_things_in_it(self):
        self.reads(b"[`a` b](c)", link(b"c"), code(b"a"), text(b" b"), LINK_END)
        self.reads(b"[a\\*\\[](c)", *linked(b"c", b"a*["))
        self.reads(b"[*a*](c)", link(b"c"), *stressed(text(b"a")), LINK_END)
        self.reads(b"[`[]`](c)", link(b"c"), code(b"[]"), LINK_END)

    def test_brackets_are_not_in_it(self):
        self.reads(b"[[a](b)", text(b"["), *linked(b"b", b"a"))
        self.reads(b"[a]](b)", text(b"[a]](b)"))
        self.reads(b"[a[b](c)", text(b"[a"), *linked(b"c", b"b"))
        self.reads(b"[a]b](c)", text(b"[a]b](c)"))
        self.reads(b"[a][b](c)", text(b"[a]"), *linked(b"c", b"b"))
        self.reads(b"[a[b](c)](d)", text(b"[a"), *linked(b"c", b"b"), text(b"](d)"))

    def test_bytes_that_an_address_may_have(self):
        for byte in range(256):
            if byte not in b"\t\n\r )[]":
                address = bytes([98, byte, 99])
                self.reads(b"[a](" + address + b")", *linked(address, b"a"))

    def test_bytes_that_an_address_may_not_have(self):
        for byte in b"\t\n\r []":
            self.is_text(b"[a](b" + bytes([byte]) + b"c)")
        self.reads(b"[a](b)c)", *linked(b"b", b"a"), text(b"c)"))
        for blank in BLANKS:
            self.is_text(b"[a](" + blank + b")")

    def test_backslashed_signs_in_an_address(self):
        for sign in SIGNS:
            self.reads(b"[a](b" + bytes([92, sign]) + b"c)", *linked(bytes([98, sign, 99]), b"a"))
        self.reads(b"[a](\\))", *linked(b")", b"a"))
        self.reads(b"[a](b\\\\)c)", *linked(b"b\\", b"a"), text(b"c)"))
        self.reads(b"[a](\\b)", *linked(b"\\b", b"a"))

    def test_no_code_span_in_an_address(self):
        self.reads(b"[a](b`c`d)", text(b"[a](b"), code(b"c"), text(b"d)"))
        self.reads(b"[a](b`c)", *linked(b"b`c", b"a"))
        self.reads(b"[a](``)", *linked(b"``", b"a"))

    def test_parentheses_and_stars_in_an_address(self):
        self.reads(b"[a](b(c)", *linked(b"b(c", b"a"))
        self.reads(b"[a](()", *linked(b"(", b"a"))
        self.reads(b"[a](*b*)", *linked(b"*b*", b"a"))
        self.reads(b"*[a](b*)c", text(b"*"), *linked(b"b*", b"a"), text(b"c"))

    def test_an_address_is_not_looked_through_for_links(self):
        self.reads(b"[a](b[c](d)", text(b"[a](b"), *linked(b"d", b"c"))

    def test_in_a_text_of_many_lines(self):
        self.reads(b"x [a\n  b](c) y", text(b"x "), *linked(b"c", b"a\nb"), text(b" y"))
        self.is_text(b"[a](b\nc)")


class TestEmphasis(Case):
    def test_emphasis(self):
        self.reads(b"*a*", *stressed(text(b"a")))
        self.reads(b"a*b c*d", text(b"a"), *stressed(text(b"b c")), text(b"d"))
        self.reads(b"*a**b*", *stressed(text(b"a")), *stressed(text(b"b")))

    def test_a_star_alone_is_a_byte(self):
        self.is_text(b"*")
        self.is_text(b"a*")
        self.is_text(b"*a")
        self.is_text(b"a*b")
        self.is_text(b"**")

    def test_a_space_behind_the_star(self):
        for space in BLANKS + (b"\n",):
            self.is_text(b"x*" + space + b"a*")
            self.is_text(b"x*" + space + b"*")
            self.reads(b"x*" + space + b"*a*", text(b"x*" + space), *stressed(text(b"a")))

    def test_a_space_before_the_other_star(self):
        for space in BLANKS + (b"\n",):
            self.is_text(b"*a" + space + b"*b")
            self.reads(b"*a" + space + b"*b*", *stressed(text(b"a" + space + b"*b")))

    def test_other_bytes_are_no_spaces(self):
        for byte in (0, 11, 12, 31, 133, 160):
            data = bytes([byte])
            self.reads(b"*" + data + b"*", *stressed(text(data)))

    def test_a_star_at_once_behind_is_the_thing_after(self):
        self.reads(b"***", *stressed(text(b"*")))
        self.reads(b"**a*", *stressed(text(b"*a")))
        self.reads(b"**a**", *stressed(text(b"*a")), text(b"*"))
        self.reads(b"***a***", *stressed(text(b"*")), text(b"a"), *stressed(text(b"*")))
        self.reads(b"****", *stressed(text(b"*")), text(b"*"))
        self.reads(b"** a*", *stressed(text(b"* a")))
        self.reads(b"** *", text(b"** *"))

    def test_the_first_star_that_can_ends_it(self):
        self.reads(b"*a*b*", *stressed(text(b"a")), text(b"b*"))
        self.reads(b"*a*b*c*", *stressed(text(b"a")), text(b"b"), *stressed(text(b"c")))
        self.reads(b"*a *b *c*d*", *stressed(text(b"a *b *c")), text(b"d*"))

    def test_what_is_between_is_shown_as_it_is(self):
        self.reads(b"*a `b` c*", *stressed(text(b"a "), code(b"b"), text(b" c")))
        self.reads(b"*a\\*b\\`*", *stressed(text(b"a*b`")))
        self.reads(b"*a [b*", *stressed(text(b"a [b")))
        self.reads(b"*a\nb*", *stressed(text(b"a\nb")))

    def test_a_code_span_is_no_space(self):
        self.reads(b"*` `*", *stressed(code(b" ")))
        self.reads(b"*` `a` `*", *stressed(code(b" "), text(b"a"), code(b" ")))

    def test_stars_that_are_bytes(self):
        self.reads(b"*a\\*", text(b"*a*"))
        self.reads(b"*a`*`", text(b"*a"), code(b"*"))
        self.reads(b"*a\\**", *stressed(text(b"a*")))

    def test_links_in_emphasis_are_links(self):
        self.reads(b"*[a](b)*", *stressed(*linked(b"b", b"a")))
        self.reads(b"*x [a](b) y*", *stressed(text(b"x "), *linked(b"b", b"a"), text(b" y")))
        self.reads(b"*[ ](b)*", *stressed(*linked(b"b", b" ")))

    def test_links_have_emphasis_of_their_own(self):
        self.reads(b"*a [*b*](c) d*", *stressed(text(b"a "), link(b"c"), *stressed(text(b"b")), LINK_END, text(b" d")))
        self.reads(b"[a *b* c](d)", link(b"d"), text(b"a "), *stressed(text(b"b")), text(b" c"), LINK_END)
        self.reads(b"*a *b [*c*](d)*", *stressed(text(b"a *b "), link(b"d"), *stressed(text(b"c")), LINK_END))

    def test_no_emphasis_over_a_links_edge(self):
        self.reads(b"*[a*](b)", text(b"*"), *linked(b"b", b"a*"))
        self.reads(b"[*a](b)*", *linked(b"b", b"*a"), text(b"*"))
        self.reads(b"*[a*](b)*", *stressed(*linked(b"b", b"a*")))
        self.reads(b"[a*](b) [*c](d)", *linked(b"b", b"a*"), text(b" "), *linked(b"d", b"*c"))
        self.reads(b"[*](b)", *linked(b"b", b"*"))

    def test_reading_goes_on_after_the_end(self):
        self.reads(b"*a* *b*", *stressed(text(b"a")), text(b" "), *stressed(text(b"b")))
        self.reads(b"* a *b* c*", text(b"* a "), *stressed(text(b"b")), text(b" c*"))


class TestText(Case):
    def test_bytes_one_after_the_other_are_one_event(self):
        self.is_text(b"a*b[c]d(e)`f\\g\x00\xff")
        self.reads(b"a\\*b* [c`", text(b"a*b* [c`"))

    def test_an_event_between_parts_text(self):
        self.reads(b"a`b`c*d*e[f](g)h", text(b"a"), code(b"b"), text(b"c"), *stressed(text(b"d")), text(b"e"),
                   *linked(b"g", b"f"), text(b"h"))


class TestLongTexts(Case):
    """The longest texts of each sign, where a search that begins anew each time would hardly end."""

    def long(self, piece):
        return piece * (LONGEST_TEXT // len(piece))

    def test_they_are_bytes(self):
        for piece in (b"[", b"]", b"[a](", b"[a", b"](", b"``", b" * ", b"[a](\\)"):
            data = b"x" + self.long(piece)[:-4] + b"x"
            self.reads(data, text(data.replace(b"\\", b"")))

    def test_stars_that_end_nothing(self):
        data = self.long(b"*a ")[:-1]
        self.is_text(data)

    def test_as_many_spans_links_and_stars_as_there_are(self):
        self.reads(self.long(b"`a`"), *[code(b"a")] * 5461)
        self.reads(self.long(b"*a*b"), *(stressed(text(b"a")) + [text(b"b")]) * 4096)
        self.reads(self.long(b"[a](b)"), *linked(b"b", b"a") * 2730)
        self.reads(b"[" + b"a" * 8000 + b"](" + b"b" * 8000 + b")", *linked(b"b" * 8000, b"a" * 8000))


if __name__ == "__main__":
    unittest.main()
