"""all and lines: what they tell of a text by itself, what they refuse, and that the object's text is as it was."""

import unittest

from tests.helper import BEGIN, END, HTML, ITEM, ITEM_END, LIST, LIST_END, LONGEST_ALONE, MOST_CALLS, P, P_END
from tests.helper import all_events, all_of, as_events, as_lines, ask, event, events_after, events_of, feed, heading
from tests.helper import html_after, items, lines_of, made_texts, paragraph, pre, told_lines

MOST_BYTES_OF_A_CALL = 2200

# What stands before, between and behind the two calls, and the text that the object has then.
OTHERS = (b"", b"a", b"# b\n- c", b"```\n*d*\n", b"\xff\x00" * 40, b"x" * LONGEST_ALONE)


class TestAll(unittest.TestCase):
    def test_how_many_events_and_then_each(self):
        told = ask(all_of(b"# a"))
        self.assertEqual(told, [[3, 4, 1, 0, 0, 0, 1, 97, 5, 1, 0]])

    def test_an_empty_text(self):
        self.assertEqual(ask(all_of(b"")), [[0]])

    def test_a_text_that_means_nothing(self):
        for data in (b"\n", b" \t\r", b"\n\n \n", b" " * LONGEST_ALONE, b"\n" * LONGEST_ALONE):
            self.assertEqual(ask(all_of(data)), [[0]], data)

    def test_each_kind_of_event(self):
        data = b"a\n## *b* `c` [d](e\\f)\n- g\n  - h\n``` i\nj\n"
        told = all_events(data)
        self.assertEqual(told, events_of(data))
        self.assertEqual({kind for kind, number, inner in told}, set(range(17)))

    def test_it_is_what_end_and_event_tell(self):
        for data in made_texts(41, 2500):
            data = data[:LONGEST_ALONE]
            self.assertEqual(all_events(data), events_of(data), data)

    def test_long_texts(self):
        for data in made_texts(42, 30, 1500):
            data = data[:LONGEST_ALONE]
            self.assertEqual(all_events(data), events_of(data), data)


class TestBounds(unittest.TestCase):
    def test_all_of_just_the_most_bytes(self):
        self.assertEqual(all_events(b"a" * LONGEST_ALONE), paragraph(b"a" * LONGEST_ALONE))
        self.assertEqual(all_events(b"#\n" * (LONGEST_ALONE // 2)), heading(1) * (LONGEST_ALONE // 2))

    def test_lines_of_just_the_most_bytes(self):
        self.assertEqual(told_lines(b"a" * LONGEST_ALONE), [(4, b"a" * LONGEST_ALONE)])
        self.assertEqual(told_lines(b"\n" * LONGEST_ALONE), [(0,)] * (LONGEST_ALONE + 1))
        self.assertEqual(told_lines(b"#\n" * (LONGEST_ALONE // 2)), [(2, 1, b"")] * (LONGEST_ALONE // 2) + [(0,)])

    def test_one_byte_more_is_refused(self):
        for byte in b"a \n\"#":
            for size in (LONGEST_ALONE + 1, LONGEST_ALONE + 2, MOST_BYTES_OF_A_CALL):
                data = bytes([byte]) * size
                self.assertEqual(ask(all_of(data), lines_of(data)), [[-1], [-1]])

    def test_the_bound_is_that_of_t_alone(self):
        most = b"a" * LONGEST_ALONE
        told = ask(feed(most * 8), all_of(most), lines_of(most), feed(b"a"), END)
        self.assertEqual(told[0], [0])
        self.assertEqual(as_events(told[1]), paragraph(most))
        self.assertEqual(as_lines(told[2]), [(4, most)])
        self.assertEqual(told[3:], [[-1], [3]])


class TestObjectsText(unittest.TestCase):
    """all and lines speak of their own t, and leave the object's text and its ending as they were."""

    def looks(self, data):
        refused = [all_of(b"a" * (LONGEST_ALONE + 1)), lines_of(b"\n" * MOST_BYTES_OF_A_CALL)]
        return [all_of(data), lines_of(data)] + refused

    def test_whatever_the_objects_text_is(self):
        data = b"# a\n- *b*\n```c\n"
        alone = ask(*self.looks(data))
        self.assertEqual(alone[2:], [[-1], [-1]])
        for other in OTHERS:
            calls = [feed(other)] + self.looks(data) + [END] + self.looks(data) + [BEGIN] + self.looks(data)
            told = ask(*calls)
            self.assertEqual(told[1:5], alone)
            self.assertEqual(told[6:10], alone)
            self.assertEqual(told[11:], alone)

    def test_the_objects_text_is_as_it_was(self):
        for other in OTHERS:
            for data in (b"", b"z", b"- z\n\n```\n", b"`*[", b"q" * LONGEST_ALONE):
                calls = self.looks(data) + [feed(other)] + self.looks(data) + [feed(b"y")] + self.looks(data) + [END]
                self.assertEqual(events_after(*calls), events_of(other + b"y"))
                self.assertEqual(html_after(*calls), html_after(feed(other + b"y"), END))

    def test_they_end_nothing(self):
        told = ask(all_of(b"a"), event(0), HTML, feed(b"b"), lines_of(b"a"), event(0), HTML, feed(b"c"), END, event(1))
        self.assertEqual([told[at] for at in (1, 2, 3, 5, 6, 7)], [[-3], [-3], [0], [-3], [-3], [0]])
        self.assertEqual(told[8:], [[3], [0, 0, 2, 98, 99]])

    def test_they_begin_nothing(self):
        told = ask(feed(b"b"), END, all_of(b"- a"), event(1), feed(b"c"), lines_of(b"- a"), event(1), HTML, END)
        self.assertEqual(told[3:5], [[0, 0, 1, 98], [-2]])
        self.assertEqual(told[6:], [[0, 0, 1, 98], [9] + list(b"<p>b</p>\n"), [3]])

    def test_neither_do_the_refused(self):
        long = b"a" * (LONGEST_ALONE + 1)
        told = ask(feed(b"b"), all_of(long), HTML, END, lines_of(long), all_of(long), event(1), feed(b"c"), END)
        self.assertEqual(told, [[0], [-1], [-3], [3], [-1], [-1], [0, 0, 1, 98], [-2], [3]])

    def test_one_look_knows_nothing_of_another(self):
        told = ask(all_of(b"```"), all_of(b"a"), lines_of(b"```"), lines_of(b"a"), all_of(b"- b"), all_of(b"  - c"))
        self.assertEqual(as_events(told[1]), paragraph(b"a"))
        self.assertEqual(as_lines(told[3]), [(4, b"a")])
        self.assertEqual(as_events(told[5]), items((0, b"c")))

    def test_the_most_calls(self):
        told = ask(*[all_of(b"a"), lines_of(b"a")] * (MOST_CALLS // 2))
        self.assertEqual(told, [[3, 2, 0, 0, 0, 0, 1, 97, 3, 0, 0], [1, 4, 1, 97]] * (MOST_CALLS // 2))


class TestLines(unittest.TestCase):
    def tells(self, data, *lines):
        self.assertEqual(told_lines(data), list(lines), data)

    def test_how_many_lines_and_then_each(self):
        told = ask(lines_of(b"\n```a\n## b\n    - c\nd"))
        self.assertEqual(told, [[5, 0, 1, 1, 97, 2, 2, 1, 98, 3, 2, 1, 99, 4, 1, 100]])
        self.assertEqual(ask(lines_of(b"```\n#\n-")), [[3, 1, 0, 2, 1, 0, 3, 0, 0]])

    def test_an_empty_text_is_one_blank_line(self):
        self.assertEqual(ask(lines_of(b"")), [[1, 0]])

    def test_what_stands_before_between_and_behind_newlines(self):
        self.tells(b"\n", (0,), (0,))
        self.tells(b"a\n", (4, b"a"), (0,))
        self.tells(b"\na", (0,), (4, b"a"))
        self.tells(b"a\n\nb\nc", (4, b"a"), (0,), (4, b"b"), (4, b"c"))
        self.tells(b"# a\r\n- b\r\n", (2, 1, b"a"), (3, 0, b"b"), (0,))

    def test_blank_lines(self):
        for data in (b" ", b"\t", b"\r", b" \t\r \t\r"):
            self.tells(data, (0,))
        for byte in (0, 11, 12, 31, 127, 133, 160, 255):
            self.tells(bytes([byte]), (4, bytes([byte])))

    def test_fences(self):
        self.tells(b"```", (1, b""))
        self.tells(b"``` \t a b \r", (1, b"a b"))
        self.tells(b"```a`b", (1, b"a`b"))
        self.tells(b"````", (1, b"`"))
        self.tells(b"```# a", (1, b"# a"))
        self.tells(b"``", (4, b"``"))
        self.tells(b"`` `", (4, b"`` `"))
        self.tells(b" ```", (4, b"```"))
        self.tells(b"\t```a", (4, b"```a"))
        self.tells(b"\\```", (4, b"\\```"))

    def test_headings(self):
        for level in range(1, 7):
            self.tells(b"#" * level + b" a", (2, level, b"a"))
            self.tells(b"#" * level, (2, level, b""))
        self.tells(b"# \t a # \r", (2, 1, b"a #"))
        self.tells(b"##\ta", (2, 2, b"a"))
        self.tells(b"##\ra", (2, 2, b"a"))
        self.tells(b"## ", (2, 2, b""))
        self.tells(b"# # a", (2, 1, b"# a"))

    def test_what_is_no_heading(self):
        self.tells(b"####### a", (4, b"####### a"))
        self.tells(b"#######", (4, b"#######"))
        for data in (b"#a", b"##-", b"#\x0b", b"#\\ a"):
            self.tells(data, (4, data))
        self.tells(b" # a", (4, b"# a"))
        self.tells(b"\t# a ", (4, b"# a"))

    def test_items(self):
        for depth in range(40):
            self.tells(b"  " * depth + b"- a", (3, depth, b"a"))
            self.tells(b"  " * depth + b" - a", (3, depth, b"a"))
            self.tells(b"  " * depth + b"-", (3, depth, b""))
        self.tells(b"-\ta\r", (3, 0, b"a"))
        self.tells(b"-\ra", (3, 0, b"a"))
        self.tells(b"- - a", (3, 0, b"- a"))
        self.tells(b"- # a", (3, 0, b"# a"))

    def test_what_is_no_item(self):
        for data in (b"-a", b"--", b"-- a", b"-\x0ba", b"-\\"):
            self.tells(data, (4, data))
        for blanks in (b"\t", b"\r", b" \t", b"\t ", b"  \r"):
            self.tells(blanks + b"- a", (4, b"- a"))

    def test_an_item_tells_the_depth_it_says(self):
        self.tells(b"      - a\n- b\n          - c\n  - d", (3, 3, b"a"), (3, 0, b"b"), (3, 5, b"c"), (3, 1, b"d"))
        deepest = LONGEST_ALONE // 2 - 1
        self.tells(b"  " * deepest + b"- ", (3, deepest, b""))
        self.tells(b"  " * deepest + b" -", (3, deepest, b""))

    def test_plain_lines(self):
        self.tells(b" \t\ra b\r ", (4, b"a b"))
        self.tells(b"*a* `b` [c](d) \\*", (4, b"*a* `b` [c](d) \\*"))
        self.tells(b"\xff\x00<&>\"", (4, b"\xff\x00<&>\""))

    def test_each_line_by_itself(self):
        self.tells(b"```a\n# b\n- c\n d \n\n```\n``` e\nf", (1, b"a"), (2, 1, b"b"), (3, 0, b"c"), (4, b"d"), (0,),
                   (1, b""), (1, b"e"), (4, b"f"))
        self.tells(b"- a\nb\n  c", (3, 0, b"a"), (4, b"b"), (4, b"c"))
        self.tells(b"```\n```a\n ```", (1, b""), (1, b"a"), (4, b"```"))

    def test_every_byte_alone_and_behind_each_beginning(self):
        kinds = {32: (0,), 9: (0,), 13: (0,), 35: (2, 1, b""), 45: (3, 0, b"")}
        for byte in set(range(256)) - {10}:
            data = bytes([byte])
            self.tells(data, kinds.get(byte, (4, data)))
            self.tells(b"```" + data, (1, data.strip(b" \t\r")))
            blank = byte in b" \t\r"
            self.tells(b"###" + data, (2, 3, b"") if blank else (2, 4, b"") if byte == 35 else (4, b"###" + data))
            self.tells(b"  -" + data, (3, 1, b"") if blank else (4, b"-" + data))


class TestLinesAndEvents(unittest.TestCase):
    def test_a_line_alone_is_the_block_that_it_tells(self):
        for data in made_texts(43, 2500):
            for line in data.split(b"\n"):
                self.assertEqual(all_events(line), self.block(*told_lines(line)[0]), line)

    def block(self, kind, *said):
        if kind == 0:
            return []
        if kind == 1:
            return pre(said[0])
        # Behind a number sign and a blank any text is a heading's; so its events are found for every kind.
        inner = all_events(b"# " + said[-1])[1:-1]
        if kind == 2:
            return [(4, said[0], b"")] + inner + [(5, said[0], b"")]
        if kind == 3:
            return [LIST, ITEM] + inner + [ITEM_END, LIST_END]
        return [P] + inner + [P_END]

    def test_there_is_one_more_than_there_are_newlines(self):
        for data in made_texts(44, 800):
            self.assertEqual(len(told_lines(data)), data.count(b"\n") + 1, data)


if __name__ == "__main__":
    unittest.main()
