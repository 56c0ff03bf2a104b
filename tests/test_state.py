"""state: how much is written, released and gone, the last telling's tick, and now."""

import unittest

from tests.calls import NEXT, STATE, WAITING, ask, begin, change, cues, feed, judge, lay, pack, row


def state(*calls):
    """What state tells behind calls that are all answered."""
    told = ask(*calls, STATE)
    assert all(part[0] >= 0 for part in told), told
    return told[-1]


class NotBegun(unittest.TestCase):
    def test_at_the_beginning(self):
        self.assertEqual(ask(STATE), [[-9]])

    def test_behind_a_refused_begin(self):
        self.assertEqual(ask(begin(width=15), STATE), [[-1], [-9]])

    def test_behind_calls_that_need_no_begin(self):
        self.assertEqual(ask(lay(16, "a"), pack(0, 1, 0, "a"), judge([]), cues(1, 1, []), STATE)[-1], [-9])

    def test_behind_a_feed_that_came_too_soon(self):
        self.assertEqual(ask(feed(5, (0, 0, "a ")), STATE, begin(), STATE)[1::2], [[-9], [0, 0, 0, 0, 0, 0]])


class Begun(unittest.TestCase):
    def test_behind_begin(self):
        self.assertEqual(state(begin()), [0, 0, 0, 0, 0, 0])

    def test_behind_a_begin_that_comes_again(self):
        calls = [begin(blank=5), feed(30, (3, 0, "so we "))]
        self.assertEqual(state(*calls), [0, 6, 6, 6, 8, 30])
        self.assertEqual(state(*calls, begin()), [0, 0, 0, 0, 0, 0])

    def test_behind_a_begin_that_is_refused(self):
        told = ask(begin(blank=5), feed(30, (3, 0, "so we ")), begin(width=97), STATE)
        self.assertEqual(told[2:], [[-1], [0, 6, 6, 6, 8, 30]])


class Feeds(unittest.TestCase):
    def test_the_documents_example(self):
        calls = [begin(16, 2, 100, 1000, 0, 0), feed(50, (0, 0, "so we "))]
        self.assertEqual(state(*calls), [0, 6, 0, 0, 0, 50])
        calls.append(feed(100))
        self.assertEqual(state(*calls), [0, 6, 0, 0, 0, 100])
        calls.append(feed(101))
        self.assertEqual(state(*calls), [0, 6, 6, 0, 100, 101])
        calls.append(feed(151, (150, 3, "I went on ")))
        self.assertEqual(state(*calls), [0, 13, 3, 0, 150, 151])
        calls.append(feed(300))
        self.assertEqual(state(*calls), [0, 13, 13, 0, 250, 300])
        calls.append(feed(401, (300, 0, "and so forth ")))
        self.assertEqual(state(*calls), [0, 26, 26, 0, 400, 401])

    def test_characters_are_counted_not_bytes(self):
        text = "\u00e4\u20ac\U0001f600 a"
        self.assertEqual(state(begin(), feed(5, (3, 0, text))), [0, 5, 4, 0, 3, 5])

    def test_an_edit_whose_tick_is_not_past_is_written(self):
        self.assertEqual(state(begin(), feed(3, (3, 0, "so "))), [0, 3, 0, 0, 0, 3])
        self.assertEqual(state(begin(), feed(3, (3, 0, "so ")), feed(4)), [0, 3, 3, 0, 3, 4])

    def test_nothing_fed(self):
        self.assertEqual(state(begin(), feed(2 ** 40 - 1)), [0, 0, 0, 0, 0, 2 ** 40 - 1])

    def test_what_is_released_may_show_nothing(self):
        self.assertEqual(state(begin(), feed(9, (3, 0, "so "), (5, 0, "  "))), [0, 5, 5, 0, 3, 9])
        self.assertEqual(state(begin(), feed(9, (3, 0, "   "))), [0, 3, 3, 0, 0, 9])

    def test_word_ends_and_line_ends(self):
        text = "so I went on and so forth"
        self.assertEqual(state(begin(), feed(9, (3, 0, text))), [0, 25, 20, 0, 3, 9])
        self.assertEqual(state(begin(byline=1), feed(9, (3, 0, text))), [0, 25, 17, 0, 3, 9])

    def test_idle(self):
        calls = [begin(idle=10), feed(13, (3, 0, "so we"))]
        self.assertEqual(state(*calls), [0, 5, 3, 0, 3, 13])
        self.assertEqual(state(*calls, feed(14)), [0, 5, 5, 0, 13, 14])

    def test_a_telling_at_tick_0(self):
        self.assertEqual(state(begin(), feed(9, (0, 0, "so "))), [0, 3, 3, 0, 0, 9])


class Back(unittest.TestCase):
    def test_into_what_is_not_released(self):
        calls = [begin(), feed(9, (3, 0, "so we"), (5, 1, ""))]
        self.assertEqual(state(*calls), [0, 4, 3, 0, 3, 9])

    def test_into_what_is_released(self):
        calls = [begin(hold=2), feed(9, (3, 0, "so we go ")), feed(9, (9, 4, "x"))]
        self.assertEqual(state(*calls), [0, 6, 5, 0, 5, 9])
        # The last word's end is before it, but what was released stays so; that it's less is told.
        self.assertEqual(state(*calls, feed(10)), [0, 6, 5, 0, 9, 10])

    def test_into_what_is_gone(self):
        calls = [begin(hold=2, blank=3), feed(9, (3, 0, "so we go "))]
        self.assertEqual(state(*calls), [0, 9, 9, 9, 8, 9])
        calls.append(feed(9, (9, 4, "x")))
        self.assertEqual(state(*calls), [0, 6, 5, 5, 8, 9])
        calls.append(feed(12, (9, 99, "on ")))
        self.assertEqual(state(*calls), [0, 3, 3, 0, 11, 12])

    def test_all_of_it(self):
        for back in (6, 7, 2 ** 53 - 1):
            calls = [begin(), feed(9, (3, 0, "so we "), (5, back, ""))]
            self.assertEqual(state(*calls), [0, 0, 0, 0, 5, 9])


class Clearings(unittest.TestCase):
    def test_all_that_is_released_is_gone(self):
        calls = [begin(blank=5), feed(8, (3, 0, "so we"))]
        self.assertEqual(state(*calls), [0, 5, 3, 0, 3, 8])
        self.assertEqual(state(*calls, feed(9)), [0, 5, 3, 3, 8, 9])

    def test_what_comes_behind_it(self):
        calls = [begin(blank=5), feed(9, (3, 0, "so we ")), feed(12, (10, 0, "go "))]
        self.assertEqual(state(*calls), [0, 9, 9, 6, 10, 12])


class NotChanged(unittest.TestCase):
    calls = [begin(blank=5), feed(30, (3, 0, "so we "), (28, 0, "go "))]
    told = [0, 9, 9, 6, 28, 30]

    def test_by_a_refused_feed(self):
        for broken in (feed(29), feed(31, (29, 0, "a")), [1, 40, 1, 3, 0], feed(2 ** 40), feed(40, (33, 0, [255]))):
            told = ask(*self.calls, broken, STATE)
            self.assertEqual(told[-2:], [[-1], self.told], broken)

    def test_by_a_feed_that_writes_too_much(self):
        calls = [begin(hold=1, idle=600000)] + [feed(0, (0, 0, "a" * 4096))] * 4
        told = ask(*calls, STATE, feed(9, (0, 0, "a")), STATE, feed(9, (0, 0, "a"), (0, 99, "")), STATE)
        kept = [0, 16384, 0, 0, 0, 0]
        self.assertEqual(told[-5:], [kept, [-2], kept, [-2], kept])

    def test_by_a_feed_that_tells_too_much(self):
        edits = [(k, 0, "a ") for k in range(200)]
        calls = [begin(), feed(200, *edits)]
        told = ask(*calls, STATE, feed(300, *[(200 + k, 0, "a ") for k in range(57)]), STATE, WAITING)
        self.assertEqual(told[2:], [[0, 400, 400, 0, 199, 200], [-4], [0, 400, 400, 0, 199, 200], [200]])

    def test_by_next_row_and_waiting(self):
        self.assertEqual(state(*self.calls), self.told)
        calls = list(self.calls)
        for call in (NEXT, NEXT, row(0), WAITING, NEXT):
            calls.append(call)
            self.assertEqual(state(*calls), self.told)

    def test_by_next_where_none_waits(self):
        told = ask(*self.calls, NEXT, NEXT, NEXT, NEXT, row(5), STATE)
        self.assertEqual(told[-4:], [change(28, 0, "go"), [-3], [-1], self.told])

    def test_by_the_calls_that_need_no_captions(self):
        calls = list(self.calls)
        for call in (lay(16, "a"), pack(1, 3, 0, ""), judge([1, 5, 0, 1, 97]), cues(1, 9, [1, 5, 0, 1, 97]), STATE):
            calls.append(call)
            self.assertEqual(state(*calls), self.told)
        calls = list(self.calls)
        for call in (lay(15, "a"), pack(2, 3, 0, ""), judge([2, 0]), cues(0, 9, [1, 5, 0, 1, 97])):
            calls.append(call)
            self.assertEqual(ask(*calls, STATE)[-1], self.told)


if __name__ == "__main__":
    unittest.main()
