"""Lines, blocks and lists: what each line is, and what the lines make."""

import unittest

from tests.helper import LONGEST_TEXT, P, P_END, PRE_END, EM, EM_END, code, events_of, heading, items, link
from tests.helper import LINK_END, paragraph, pre, running, text


class Case(unittest.TestCase):
    def means(self, data, events):
        self.assertEqual(events_of(data), events, data)


class TestBlankLines(Case):
    def test_blanks_and_newlines_alone_mean_nothing(self):
        for data in (b"", b" ", b"\t", b"\r", b"\n", b"\n\n\n", b" \t\r \n\r\n \n", b" " * LONGEST_TEXT):
            self.means(data, [])

    def test_other_control_bytes_are_no_blanks(self):
        for byte in (0, 1, 8, 11, 12, 14, 28, 31, 127, 133, 160, 255):
            self.means(bytes([32, byte, 9]), paragraph(bytes([byte])))

    def test_a_blank_line_ends_a_paragraph(self):
        self.means(b"a\n\nb", paragraph(b"a") + paragraph(b"b"))
        self.means(b"a\n \t\r\nb", paragraph(b"a") + paragraph(b"b"))
        self.means(b"\n\na\n\n\n\nb\n\n", paragraph(b"a") + paragraph(b"b"))


class TestParagraphs(Case):
    def test_a_plain_line_is_trimmed(self):
        self.means(b" \t\ra b\r\t ", paragraph(b"a b"))
        self.means(b"a \t\r b", paragraph(b"a \t\r b"))

    def test_plain_lines_at_once_are_one_paragraph(self):
        self.means(b"a\nb", paragraph(b"a\nb"))
        self.means(b" a \r\n\tb\t\n  c", paragraph(b"a\nb\nc"))

    def test_a_newline_at_the_end_is_no_text(self):
        self.means(b"a\n", paragraph(b"a"))
        self.means(b"a\r\n\r\n", paragraph(b"a"))

    def test_other_lines_end_a_paragraph(self):
        self.means(b"a\n# b\nc", paragraph(b"a") + heading(1, b"b") + paragraph(b"c"))
        self.means(b"a\n- b", paragraph(b"a") + items((0, b"b")))
        self.means(b"a\n```\nb\n```\nc", paragraph(b"a") + pre(b"", b"b") + paragraph(b"c"))


class TestHeadings(Case):
    def test_levels_1_to_6(self):
        for level in range(1, 7):
            self.means(b"#" * level + b" a", heading(level, b"a"))
            self.means(b"#" * level, heading(level))

    def test_seven_number_signs_are_plain(self):
        self.means(b"####### a", paragraph(b"####### a"))
        self.means(b"#######", paragraph(b"#######"))
        self.means(b"#" * 100 + b" a", paragraph(b"#" * 100 + b" a"))

    def test_a_blank_or_nothing_stands_behind_the_number_signs(self):
        for blank in (b" ", b"\t", b"\r", b"  \t"):
            self.means(b"##" + blank + b"a", heading(2, b"a"))
            self.means(b"##" + blank, heading(2))
        for other in (b"a", b"\x00", b"-", b"\\", b"\x0b"):
            self.means(b"##" + other, paragraph(b"##" + other))

    def test_a_heading_begins_with_its_number_signs(self):
        for blank in (b" ", b"\t", b"\r"):
            self.means(blank + b"# a", paragraph(b"# a"))
        self.means(b"\\# a", paragraph(b"# a"))

    def test_the_text_is_trimmed_and_keeps_number_signs(self):
        self.means(b"# \t a b \r", heading(1, b"a b"))
        self.means(b"# a #", heading(1, b"a #"))
        self.means(b"# # a", heading(1, b"# a"))
        self.means(b"# - a", heading(1, b"- a"))

    def test_a_heading_is_one_line(self):
        self.means(b"# a\nb", heading(1, b"a") + paragraph(b"b"))
        self.means(b"# a\n## b\n# c", heading(1, b"a") + heading(2, b"b") + heading(1, b"c"))
        self.means(b"#\na", heading(1) + paragraph(b"a"))

    def test_the_text_is_running_text(self):
        told = [(4, 3, b""), EM, text(b"a"), EM_END, text(b" "), code(b"b"), text(b" "), link(b"d"), text(b"c")]
        self.means(b"### *a* `b` [c](d)", told + [LINK_END, (5, 3, b"")])

    def test_running_text_ends_with_the_heading(self):
        self.means(b"# `a\nb`", heading(1, b"`a") + paragraph(b"b`"))
        self.means(b"# *a\nb*", heading(1, b"*a") + paragraph(b"b*"))


class TestCodeBlocks(Case):
    def test_lines_up_to_the_fence(self):
        self.means(b"```\na\nb\n```", pre(b"", b"a", b"b"))
        self.means(b"```\n```", pre(b""))

    def test_the_label_is_trimmed_and_as_it_is(self):
        self.means(b"```py\na\n```", pre(b"py", b"a"))
        self.means(b"``` \t*p\\* `y` [a](b)\r\n```", pre(b"*p\\* `y` [a](b)"))
        self.means(b"``` \t\r\n```", pre(b""))

    def test_a_fourth_backquote_is_of_the_label(self):
        self.means(b"````\n```", pre(b"`"))
        self.means(b"``````\na\n```", pre(b"```", b"a"))
        self.means(b"```a```\nb\n```", pre(b"a```", b"b"))

    def test_lines_are_as_they_are(self):
        rows = (b" a ", b"", b"\t", b"*b*", b"\\*", b"# c", b"- d", b"`e`", b"[f](g)", b"h\r", b"\x00\xff", b"````")
        self.means(b"```\n" + b"\n".join(rows) + b"\n```\n", pre(b"", *rows))

    def test_what_closes_it_is_trimmed(self):
        for line in (b"```", b" ```", b"```\r", b"\t ``` \r", b"      ```"):
            self.means(b"```x\na\n" + line + b"\nb", pre(b"x", b"a") + paragraph(b"b"))

    def test_what_does_not_close_it(self):
        for line in (b"``", b"````", b"``` a", b"```a", b"a```", b"`` `", b"\\```", b"\x0b```"):
            self.means(b"```\n" + line + b"\n```", pre(b"", line))

    def test_a_fence_that_is_never_closed_has_all_there_are(self):
        self.means(b"```", pre(b""))
        self.means(b"```a", pre(b"a"))
        self.means(b"```\na\n\n- b", pre(b"", b"a", b"", b"- b"))
        self.means(b"```\n``` a", pre(b"", b"``` a"))

    def test_the_last_line_of_all_there_are_may_be_empty(self):
        self.means(b"```\n", pre(b"", b""))
        self.means(b"```\na\n", pre(b"", b"a", b""))

    def test_a_fence_begins_with_its_backquotes(self):
        self.means(b" ```\na", [P, text(b"```\na"), P_END])
        self.means(b"``\na", paragraph(b"``\na"))

    def test_a_code_block_after_another(self):
        self.means(b"```\na\n```\n```b\n```", pre(b"", b"a") + pre(b"b"))
        self.means(b"```\n```\n```\n```\n```", pre(b"") + pre(b"") + pre(b""))

    def test_blank_lines_around_it_are_none(self):
        self.means(b"\n```\n\n```\n\na", pre(b"", b"") + paragraph(b"a"))


class TestItems(Case):
    def test_a_hyphen_and_a_blank_or_nothing(self):
        for data in (b"- a", b"-\ta", b"-\ra", b"- \t a \r", b" - a"):
            self.means(data, items((0, b"a")))
        for data in (b"-", b"- ", b"-\t", b"-\r", b" -"):
            self.means(data, items((0, b"")))

    def test_what_is_no_item(self):
        for data in (b"-a", b"--", b"-- a", b"---", b"-\x00a", b"- a"[1:] + b"-", b"+ a", b"\\- a"):
            self.means(data, paragraph(data.replace(b"\\", b"").strip()))

    def test_only_spaces_stand_before_the_hyphen(self):
        for blank in (b"\t", b"\r", b" \t", b"  \r", b"\t "):
            self.means(blank + b"- a", paragraph(b"- a"))

    def test_two_spaces_are_one_depth(self):
        for depth in range(4):
            above = [(step, b"a") for step in range(depth)]
            lines = b"".join(b"  " * step + b"- a\n" for step in range(depth))
            for odd in (b"", b" "):
                self.means(lines + b"  " * depth + odd + b"- b", items(*above, (depth, b"b")))

    def test_the_first_item_has_depth_0_whatever_it_says(self):
        for spaces in range(12):
            self.means(b" " * spaces + b"- a", items((0, b"a")))
        self.means(b"      - a\n  - b", items((0, b"a"), (1, b"b")))
        self.means(b"      - a\n- b", items((0, b"a"), (0, b"b")))

    def test_at_most_one_deeper_than_the_one_before(self):
        self.means(b"- a\n      - b\n    - c", items((0, b"a"), (1, b"b"), (2, b"c")))
        self.means(b"- a\n    - b\n    - c\n    - d", items((0, b"a"), (1, b"b"), (2, b"c"), (2, b"d")))
        self.means(b"    - a\n    - b\n    - c", items((0, b"a"), (1, b"b"), (2, b"c")))

    def test_back_by_one_and_by_more(self):
        self.means(b"- a\n  - b\n- c", items((0, b"a"), (1, b"b"), (0, b"c")))
        told = items((0, b"a"), (1, b"b"), (2, b"c"), (3, b"d"), (1, b"e"), (2, b"f"), (0, b"g"), (1, b"h"))
        self.means(b"- a\n  - b\n    - c\n      - d\n  - e\n    - f\n- g\n  - h", told)

    def test_how_items_are_nested(self):
        kinds = [kind for kind, number, data in events_of(b"- a\n  - b\n  - c\n- d")]
        self.assertEqual(kinds, [6, 8, 0, 6, 8, 0, 9, 8, 0, 9, 7, 9, 8, 0, 9, 7])

    def test_blank_lines_between_items_end_no_list(self):
        self.means(b"- a\n\n- b", items((0, b"a"), (0, b"b")))
        self.means(b"- a\n\n \t\n\r\n  - b\n\n\n- c\n\n", items((0, b"a"), (1, b"b"), (0, b"c")))

    def test_another_block_ends_a_list(self):
        self.means(b"- a\n# b\n- c", items((0, b"a")) + heading(1, b"b") + items((0, b"c")))
        self.means(b"- a\n\nb\n- c", items((0, b"a")) + paragraph(b"b") + items((0, b"c")))
        self.means(b"- a\n```\nb\n```\n- c", items((0, b"a")) + pre(b"", b"b") + items((0, b"c")))

    def test_another_block_ends_all_lists_in_one_another(self):
        deep = items((0, b"a"), (1, b"b"), (2, b"c"))
        self.means(b"- a\n  - b\n    - c\n\nd", deep + paragraph(b"d"))
        self.means(b"- a\n  - b\n    - c\n#", deep + heading(1))

    def test_behind_another_block_depth_begins_anew(self):
        told = items((0, b"a"), (1, b"b")) + heading(1) + items((0, b"c"), (1, b"d"))
        self.means(b"- a\n  - b\n#\n  - c\n  - d", told)
        self.means(b"- a\n  - b\n\nx\n    - c", items((0, b"a"), (1, b"b")) + paragraph(b"x") + items((0, b"c")))

    def test_an_item_takes_the_plain_lines_that_follow_at_once(self):
        self.means(b"- a\nb\n  c  \n- d", items((0, b"a\nb\nc"), (0, b"d")))
        self.means(b"- a\n  - b\nc", items((0, b"a"), (1, b"b\nc")))
        self.means(b"- a\n\tb\n  # c", items((0, b"a\nb\n# c")))

    def test_an_empty_item_has_no_newline_before_its_lines(self):
        self.means(b"-\na", items((0, b"a")))
        self.means(b"- \na\nb", items((0, b"a\nb")))

    def test_behind_a_blank_line_a_plain_line_is_a_paragraph(self):
        self.means(b"- a\n\nb", items((0, b"a")) + paragraph(b"b"))
        self.means(b"- a\n\n  b", items((0, b"a")) + paragraph(b"b"))

    def test_the_text_is_running_text_over_its_lines(self):
        self.assertEqual(events_of(b"- `a\n  b` *c\nd*")[2:-2],
                         [code(b"a\nb"), text(b" "), EM, text(b"c\nd"), EM_END])

    def test_running_text_ends_with_the_item(self):
        self.means(b"- `a\n- b`", items((0, b"`a"), (0, b"b`")))
        self.means(b"- *a\n  - b*", items((0, b"*a"), (1, b"b*")))

    def test_as_deep_as_a_text_can_be(self):
        lines, depth = b"", 0
        while len(lines) + 2 * depth + 2 <= LONGEST_TEXT:
            lines, depth = lines + b"  " * depth + b"-\n", depth + 1
        self.assertGreater(depth, 100)
        self.means(lines, items(*[(step, b"") for step in range(depth)]))


class TestOrderOfKinds(Case):
    def test_the_first_kind_that_fits(self):
        self.means(b"\t\n# a\n- b\n```\n# c\n- d\n```\ne",
                   heading(1, b"a") + items((0, b"b")) + pre(b"", b"# c", b"- d") + paragraph(b"e"))

    def test_a_long_text_of_many_blocks(self):
        count = LONGEST_TEXT // 8
        self.means(b"# a\nbc\n\n" * count, (heading(1, b"a") + paragraph(b"bc")) * count)

    def test_as_many_newlines_as_a_text_can_have(self):
        self.means(b"\n" * LONGEST_TEXT, [])
        self.assertEqual(len(events_of(b"```" + b"\n" * 3000)), 3002)
        self.assertEqual(running(b"a\n" * (LONGEST_TEXT // 2)), [text((b"a\n" * (LONGEST_TEXT // 2))[:-1])])


if __name__ == "__main__":
    unittest.main()
