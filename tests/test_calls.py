"""begin, feed, end and event: what they answer, what they refuse, and what is handed in stays as it was."""

import unittest

from marklite.notes import UnknownCall, answers
from tests.helper import BEGIN, END, LONGEST_TEXT, Numbers, P, P_END, ask, event, events_after, events_of, feed
from tests.helper import made_text, paragraph, text

FULL = b"a" * LONGEST_TEXT


class TestForm(unittest.TestCase):
    def test_each_answer_has_its_count_before_it(self):
        calls = BEGIN + feed(b"ab") + event(0) + END + event(0) + event(1) + event(2) + event(3) + feed(b"c")
        told = [1, 0, 1, 0, 1, -3, 1, 3, 3, 2, 0, 0, 5, 0, 0, 2, 97, 98, 3, 3, 0, 0, 1, -3, 1, -2]
        self.assertEqual(answers(calls), told)

    def test_what_is_handed_in_stays_the_same_list_with_the_same_numbers(self):
        calls = feed(b"# a\n- `b`\n```c\nd\n") + END + event(1) + feed(b"e") + BEGIN + feed(b"f") + END + event(1)
        before = list(calls)
        first = answers(calls)
        self.assertEqual(calls, before)
        self.assertEqual(answers(calls), first)
        self.assertEqual(calls, before)

    def test_what_is_given_back_can_be_changed_without_a_trace(self):
        calls = feed(b"ab") + END + event(1) + event(1)
        first = answers(calls)
        told = list(first)
        for at in range(len(first)):
            first[at] = 99
        self.assertEqual(answers(calls), told)

    def test_only_whole_numbers_are_given_back(self):
        answered = answers(BEGIN + feed(b"*a* `b`") + END + event(1) + event(99) + feed(b""))
        self.assertIs(type(answered), list)
        self.assertEqual({type(number) for number in answered}, {int})

    def test_nothing_is_kept_from_one_time_to_the_next(self):
        self.assertEqual(ask(feed(b"a"), END), [[0], [3]])
        self.assertEqual(ask(event(0), feed(b""), END), [[-3], [0], [0]])

    def test_four_hundred_calls(self):
        self.assertEqual(ask(*[feed(b"a")] * 398, END, event(1))[-1], [0, 0, 398] + [97] * 398)

    def test_a_number_that_is_no_call(self):
        for number in (0, 8, 77):
            with self.assertRaises(UnknownCall):
                answers([1, number])


class TestBegin(unittest.TestCase):
    def test_begin_answers_0_at_any_time(self):
        self.assertEqual(ask(BEGIN, BEGIN, feed(b"a"), BEGIN, END, BEGIN), [[0], [0], [0], [0], [0], [0]])

    def test_begin_makes_the_text_new(self):
        self.assertEqual(events_after(feed(b"# a"), BEGIN, feed(b"b"), END), paragraph(b"b"))

    def test_begin_after_end(self):
        answered = ask(feed(b"a"), END, BEGIN, event(0), feed(b"b"), event(0), END, event(1))
        self.assertEqual(answered, [[0], [3], [0], [-3], [0], [-3], [3], [0, 0, 1, 98]])

    def test_begin_makes_room_again(self):
        half = FULL[:9000]
        self.assertEqual(ask(feed(half), feed(half), BEGIN, feed(half), END)[1:], [[-1], [0], [0], [3]])


class TestFeed(unittest.TestCase):
    def test_bytes_come_behind_the_text(self):
        self.assertEqual(events_after(feed(b"ab"), feed(b""), feed(b"cd"), END), paragraph(b"abcd"))

    def test_a_text_of_just_the_most_bytes(self):
        self.assertEqual(ask(feed(FULL), END, event(1)), [[0], [3], [0, 0, LONGEST_TEXT] + [97] * LONGEST_TEXT])

    def test_one_byte_more_is_refused(self):
        self.assertEqual(ask(feed(FULL + b"a"), END), [[-1], [0]])
        self.assertEqual(ask(feed(b"a" * 17000), END), [[-1], [0]])

    def test_the_bound_holds_for_the_whole_text(self):
        calls = [feed(FULL[:-2]), feed(b"bcd"), feed(b"b"), feed(b"cd"), feed(b"c"), feed(b"d"), feed(b""), END]
        self.assertEqual(ask(*calls), [[0], [-1], [0], [-1], [0], [-1], [0], [3]])
        self.assertEqual(events_after(*calls), paragraph(FULL[:-2] + b"bc"))

    def test_feed_after_end_is_refused(self):
        self.assertEqual(ask(feed(b"a"), END, feed(b"b"), feed(b""), END), [[0], [3], [-2], [-2], [3]])
        self.assertEqual(events_after(feed(b"a"), END, feed(b"b"), END), paragraph(b"a"))

    def test_an_ended_text_is_refused_ahead_of_a_long_one(self):
        self.assertEqual(ask(END, feed(FULL + b"a")), [[0], [-2]])
        self.assertEqual(ask(feed(FULL), END, feed(b"a")), [[0], [3], [-2]])

    def test_feed_after_begin_after_end(self):
        self.assertEqual(ask(END, BEGIN, feed(b"a"), END), [[0], [0], [0], [3]])

    def test_every_byte_can_be_fed(self):
        for byte in range(256):
            data = bytes([97, byte, 97])
            self.assertEqual(events_of(data), paragraph(data))


class TestEnd(unittest.TestCase):
    def test_an_empty_text_means_nothing(self):
        self.assertEqual(ask(END), [[0]])
        self.assertEqual(ask(feed(b""), END, event(0)), [[0], [0], [-3]])
        self.assertEqual(events_of(b""), [])

    def test_end_tells_how_many_events(self):
        for data, count in ((b"a", 3), (b"#", 2), (b"- a\n- b", 8), (b"```", 2), (b"```\n\n", 4), (b"*a* `b`", 7)):
            self.assertEqual(ask(feed(data), END)[-1], [count])

    def test_end_again_and_again(self):
        self.assertEqual(ask(feed(b"*a*"), END, END, END, event(2), END), [[0], [5], [5], [5], [0, 0, 1, 97], [5]])

    def test_end_again_after_begin(self):
        self.assertEqual(ask(feed(b"*a*"), END, BEGIN, END, END), [[0], [5], [0], [0], [0]])


class TestEvent(unittest.TestCase):
    def test_event_ahead_of_end(self):
        self.assertEqual(ask(event(0), feed(b"a"), event(0), event(1)), [[-3], [0], [-3], [-3]])

    def test_events_are_told_from_0_on(self):
        answered = ask(feed(b"# a"), END, event(0), event(1), event(2))
        self.assertEqual(answered[2:], [[4, 1, 0], [0, 0, 1, 97], [5, 1, 0]])

    def test_at_the_last_event_and_behind_it(self):
        answered = ask(feed(b"a"), END, event(2), event(3), event(4), event(4294967295))
        self.assertEqual(answered, [[0], [3], [3, 0, 0], [-3], [-3], [-3]])

    def test_no_event_of_an_empty_text(self):
        self.assertEqual(ask(END, event(0)), [[0], [-3]])

    def test_events_in_any_order_and_again(self):
        answered = ask(feed(b"ab"), END, event(2), event(1), event(0), event(1))
        self.assertEqual(answered[2:], [[3, 0, 0], [0, 0, 2, 97, 98], [2, 0, 0], [0, 0, 2, 97, 98]])

    def test_bytes_of_an_event_are_those_fed(self):
        self.assertEqual(events_of(b"\x00\xff\x80"), [P, text(b"\x00\xff\x80"), P_END])


class TestManyLinesOfCalls(unittest.TestCase):
    """Lines of calls by a fixed rule, held against a plain account of what each call answers."""

    def test_they_answer_as_the_calls_are_told(self):
        numbers = Numbers(11)
        for _ in range(400):
            calls, told = self.made_line(numbers)
            self.assertEqual(ask(*calls), told)

    def made_line(self, numbers):
        fed, ended, calls, told = b"", False, [], []
        for _ in range(numbers.below(25)):
            kind = numbers.one_of((1, 2, 2, 2, 3, 4, 4, 4))
            if kind == 1:
                calls, told, fed, ended = calls + [BEGIN], told + [[0]], b"", False
            elif kind == 2:
                piece = made_text(numbers, 8)
                calls, told = calls + [feed(piece)], told + [[-2] if ended else [0]]
                fed = fed if ended else fed + piece
            elif kind == 3:
                calls, told, ended = calls + [END], told + [[len(events_of(fed))]], True
            else:
                place = numbers.below(12)
                calls, told = calls + [event(place)], told + [self.look(fed, ended, place)]
        return calls, told

    def look(self, fed, ended, place):
        events = events_of(fed)
        if not ended or place >= len(events):
            return [-3]
        return [events[place][0], events[place][1], len(events[place][2])] + list(events[place][2])


if __name__ == "__main__":
    unittest.main()
