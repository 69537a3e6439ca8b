"""html: each kind's tags, newlines and levels, the four escaped bytes, and its refusal."""

import unittest

from tests.helper import BEGIN, END, HTML, LONGEST_TEXT, ask, event, events_of, feed, html_after, html_of, made_texts

FOUR = b"&<>\""
FOUR_WRITTEN = b"&amp;&lt;&gt;&quot;"

TAGS = {
    2: b"<p>", 3: b"</p>\n", 6: b"<ul>\n", 7: b"</ul>\n", 8: b"<li>", 9: b"</li>\n", 12: b"</pre>\n",
    13: b"<em>", 14: b"</em>", 16: b"</a>",
}


def written(data):
    return data.replace(b"&", b"&amp;").replace(b"<", b"&lt;").replace(b">", b"&gt;").replace(b"\"", b"&quot;")


def html_of_event(kind, number, data):
    """Write one event as the document's paragraph "HTML" tells it."""
    if kind == 0:
        return written(data)
    if kind == 1:
        return b"<code>" + written(data) + b"</code>"
    if kind == 4:
        return b"<h%d>" % number
    if kind == 5:
        return b"</h%d>\n" % number
    if kind == 10:
        return b"<pre title=\"" + written(data) + b"\">\n"
    if kind == 11:
        return written(data) + b"\n"
    if kind == 15:
        return b"<a href=\"" + written(data) + b"\">"
    return TAGS[kind]


def html_of_events(events):
    return b"".join(html_of_event(*told) for told in events)


class Case(unittest.TestCase):
    def shows(self, data, page):
        self.assertEqual(html_of(data), page, data)


class TestForm(unittest.TestCase):
    def test_how_many_bytes_and_then_these(self):
        page = list(b"<p>a</p>\n")
        self.assertEqual(ask(feed(b"a"), END, HTML)[2], [9] + page)
        self.assertEqual(ask(feed(b"#"), END, HTML)[2], [10] + list(b"<h1></h1>\n"))

    def test_a_text_that_means_nothing(self):
        for data in (b"", b"\n", b" \t\r\n\n"):
            self.assertEqual(ask(feed(data), END, HTML)[2], [0])
        self.assertEqual(ask(END, HTML), [[0], [0]])


class TestRefusal(unittest.TestCase):
    def test_ahead_of_the_end(self):
        self.assertEqual(ask(HTML, feed(b"a"), HTML, HTML), [[-3], [0], [-3], [-3]])
        self.assertEqual(ask(feed(b"a"), HTML, END, HTML)[1:], [[-3], [3], [9] + list(b"<p>a</p>\n")])

    def test_after_begin_again(self):
        told = ask(feed(b"a"), END, HTML, BEGIN, HTML, feed(b"b"), HTML, END, HTML)
        page = [9] + list(b"<p>a</p>\n")
        other = [9] + list(b"<p>b</p>\n")
        self.assertEqual(told, [[0], [3], page, [0], [-3], [0], [-3], [3], other])

    def test_a_refused_html_changes_nothing(self):
        self.assertEqual(html_after(HTML, feed(b"- a"), HTML, feed(b"b"), HTML, END), b"<ul>\n<li>ab</li>\n</ul>\n")


class TestAgain(unittest.TestCase):
    def test_twice_in_a_row(self):
        for data in made_texts(31, 200):
            first, second = ask(feed(data), END, HTML, HTML)[2:]
            self.assertEqual(first, second, data)

    def test_behind_looks_and_refusals(self):
        told = ask(feed(b"*a*"), END, HTML, event(1), feed(b"b"), event(99), END, HTML)
        self.assertEqual(told[2], told[-1])
        self.assertEqual(bytes(told[2][1:]), b"<p><em>a</em></p>\n")

    def test_events_are_as_they_were_behind_it(self):
        told = ask(feed(b"<a>"), END, event(1), HTML, event(1), END)
        self.assertEqual(told[2], [0, 0, 3, 60, 97, 62])
        self.assertEqual(told[4:], [told[2], [3]])

    def test_the_most_calls(self):
        told = ask(feed(b"a"), END, *[HTML] * 398)
        self.assertEqual(told[2:], [[9] + list(b"<p>a</p>\n")] * 398)


class TestBlocks(Case):
    def test_paragraphs(self):
        self.shows(b"a", b"<p>a</p>\n")
        self.shows(b"a\n b \n\nc", b"<p>a\nb</p>\n<p>c</p>\n")

    def test_headings_of_each_level(self):
        for level in range(1, 7):
            tag = str(level).encode("ascii")
            self.shows(b"#" * level + b" a", b"<h" + tag + b">a</h" + tag + b">\n")
            self.shows(b"#" * level, b"<h" + tag + b"></h" + tag + b">\n")
        self.shows(b"####### a", b"<p>####### a</p>\n")

    def test_lists(self):
        self.shows(b"- a", b"<ul>\n<li>a</li>\n</ul>\n")
        self.shows(b"-", b"<ul>\n<li></li>\n</ul>\n")
        self.shows(b"- a\n- b\nc", b"<ul>\n<li>a</li>\n<li>b\nc</li>\n</ul>\n")

    def test_lists_in_items(self):
        self.shows(b"- a\n  - b\n- c",
                   b"<ul>\n<li>a<ul>\n<li>b</li>\n</ul>\n</li>\n<li>c</li>\n</ul>\n")
        self.shows(b"-\n  -\n    -\n\nd",
                   b"<ul>\n<li><ul>\n<li><ul>\n<li></li>\n</ul>\n</li>\n</ul>\n</li>\n</ul>\n<p>d</p>\n")

    def test_code_blocks(self):
        self.shows(b"```\na\n```", b"<pre title=\"\">\na\n</pre>\n")
        self.shows(b"``` py 3 \na\n\n  b \n```", b"<pre title=\"py 3\">\na\n\n  b \n</pre>\n")
        self.shows(b"```\n```", b"<pre title=\"\">\n</pre>\n")
        self.shows(b"```\n", b"<pre title=\"\">\n\n</pre>\n")

    def test_lines_of_code_are_as_they_are(self):
        self.shows(b"```\n*a* `b` [c](d) \\*\n# e\n- f\r\n```",
                   b"<pre title=\"\">\n*a* `b` [c](d) \\*\n# e\n- f\r\n</pre>\n")

    def test_blocks_one_behind_another(self):
        self.shows(b"a\n# b\n- c\n```d\ne\n```\nf",
                   b"<p>a</p>\n<h1>b</h1>\n<ul>\n<li>c</li>\n</ul>\n<pre title=\"d\">\ne\n</pre>\n<p>f</p>\n")


class TestRunningText(Case):
    def test_emphasis(self):
        self.shows(b"a *b* c", b"<p>a <em>b</em> c</p>\n")
        self.shows(b"a * b", b"<p>a * b</p>\n")

    def test_code_spans(self):
        self.shows(b"a `b` c", b"<p>a <code>b</code> c</p>\n")
        self.shows(b"`a``b`", b"<p><code>a</code><code>b</code></p>\n")
        self.shows(b"a `b\nc`", b"<p>a <code>b\nc</code></p>\n")

    def test_links(self):
        self.shows(b"[a](b)", b"<p><a href=\"b\">a</a></p>\n")
        self.shows(b"[a]()", b"<p><a href=\"\">a</a></p>\n")
        self.shows(b"[a](b\\)c)", b"<p><a href=\"b)c\">a</a></p>\n")

    def test_one_in_the_other(self):
        self.shows(b"*a [`b` *c*](d)*",
                   b"<p><em>a <a href=\"d\"><code>b</code> <em>c</em></a></em></p>\n")

    def test_in_headings_and_items(self):
        inner = b"<em>a</em> <code>b</code> <a href=\"d\">c</a>"
        self.shows(b"## *a* `b` [c](d)", b"<h2>" + inner + b"</h2>\n")
        self.shows(b"- *a* `b` [c](d)", b"<ul>\n<li>" + inner + b"</li>\n</ul>\n")

    def test_backslashed_signs(self):
        self.shows(b"\\*a\\* \\`b\\` \\[c\\](d) \\\\", b"<p>*a* `b` [c](d) \\</p>\n")


class TestEscapedBytes(Case):
    def test_in_text(self):
        self.shows(b"a " + FOUR + b" b", b"<p>a " + FOUR_WRITTEN + b" b</p>\n")
        self.shows(b"# " + FOUR, b"<h1>" + FOUR_WRITTEN + b"</h1>\n")
        self.shows(b"- " + FOUR, b"<ul>\n<li>" + FOUR_WRITTEN + b"</li>\n</ul>\n")
        self.shows(b"*" + FOUR + b"*", b"<p><em>" + FOUR_WRITTEN + b"</em></p>\n")

    def test_behind_a_backslash(self):
        self.shows(b"\\&\\<\\>\\\"", b"<p>" + FOUR_WRITTEN + b"</p>\n")

    def test_in_code_spans(self):
        self.shows(b"`" + FOUR + b"`", b"<p><code>" + FOUR_WRITTEN + b"</code></p>\n")

    def test_in_lines_and_labels_of_code(self):
        self.shows(b"```" + FOUR + b"\n" + FOUR + b"\n```",
                   b"<pre title=\"" + FOUR_WRITTEN + b"\">\n" + FOUR_WRITTEN + b"\n</pre>\n")

    def test_in_links_and_addresses(self):
        self.shows(b"[" + FOUR + b"](" + FOUR + b")",
                   b"<p><a href=\"" + FOUR_WRITTEN + b"\">" + FOUR_WRITTEN + b"</a></p>\n")
        self.shows(b"[a](\\&\\<\\>\\\")", b"<p><a href=\"" + FOUR_WRITTEN + b"\">a</a></p>\n")

    def test_what_is_written_already_is_written_again(self):
        self.shows(b"&amp; &lt;", b"<p>&amp;amp; &amp;lt;</p>\n")
        self.shows(b"`&quot;`", b"<p><code>&amp;quot;</code></p>\n")

    def test_tags_in_a_text_are_text(self):
        self.shows(b"<p>a</p>", b"<p>&lt;p&gt;a&lt;/p&gt;</p>\n")
        self.shows(b"[a](\"><b>)", b"<p><a href=\"&quot;&gt;&lt;b&gt;\">a</a></p>\n")
        self.shows(b"```\"><b>\n</pre>", b"<pre title=\"&quot;&gt;&lt;b&gt;\">\n&lt;/pre&gt;\n</pre>\n")

    def test_no_other_byte_is_written_otherwise(self):
        plain = bytes(byte for byte in range(256) if byte not in b"\n" + FOUR)
        line = plain.replace(b"`", b"")
        self.shows(b"```\n" + plain, b"<pre title=\"\">\n" + plain + b"\n</pre>\n")
        self.shows(b"`" + line + b"`", b"<p><code>" + line + b"</code></p>\n")
        for byte in plain:
            if byte not in b" \t\r":
                self.shows(bytes([97, byte, 97]), b"<p>" + bytes([97, byte, 97]) + b"</p>\n")
                self.shows(b"```" + bytes([97, byte]), b"<pre title=\"" + bytes([97, byte]) + b"\">\n</pre>\n")

    def test_bytes_from_128_on(self):
        high = bytes(range(128, 256))
        self.shows(high, b"<p>" + high + b"</p>\n")
        self.shows(b"`" + high + b"`", b"<p><code>" + high + b"</code></p>\n")
        self.shows(b"```" + high + b"\n" + high, b"<pre title=\"" + high + b"\">\n" + high + b"\n</pre>\n")
        self.shows(b"[" + high + b"](" + high + b")", b"<p><a href=\"" + high + b"\">" + high + b"</a></p>\n")
        self.shows(b"# \xc3\xa4 <\xff>", b"<h1>\xc3\xa4 &lt;\xff&gt;</h1>\n")


class TestManyTexts(Case):
    def test_html_is_that_of_the_events(self):
        for data in made_texts(32, 2500):
            self.shows(data, html_of_events(events_of(data)))

    def test_with_many_escaped_bytes(self):
        for data in made_texts(33, 800):
            for plain, other in ((b"a", b"<"), (b"b", b"\""), (b"c", b"&lt;"), (b" ", b" >"), (b"x", b"&")):
                data = data.replace(plain, other)
            self.shows(data, html_of_events(events_of(data)))

    def test_long_texts(self):
        for data in made_texts(34, 12, 2500):
            data = data[:LONGEST_TEXT]
            self.shows(data, html_of_events(events_of(data)))

    def test_the_longest_pages(self):
        self.shows(b"\"" * LONGEST_TEXT, b"<p>" + b"&quot;" * LONGEST_TEXT + b"</p>\n")
        self.shows(b"#\n" * (LONGEST_TEXT // 2), b"<h1></h1>\n" * (LONGEST_TEXT // 2))
        self.shows(b"-\n" * (LONGEST_TEXT // 2), b"<ul>\n" + b"<li></li>\n" * (LONGEST_TEXT // 2) + b"</ul>\n")


if __name__ == "__main__":
    unittest.main()
