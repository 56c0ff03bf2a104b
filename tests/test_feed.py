"""feed: each refusal, in the document's order, and that it changes nothing."""

import unittest

from tests.calls import NEXT, WAITING, ask, begin, change, feed, raw_feed, row

FULL = ["a\n" * 2048] * 4


def full(now=0, hold=0, **rules):
    """16,384 characters written, all of one tick."""
    return [begin(hold=hold, **rules)] + [feed(now, (0, 0, text)) for text in FULL]


def told_full():
    """16,384 characters written, all of them put in four tellings that wait."""
    return [begin()] + [feed(k + 1, (k, 0, text)) for k, text in enumerate(FULL)]


class FeedCase(unittest.TestCase):
    before = [begin(hold=3, idle=50, blank=20), feed(10, (4, 0, "so we go "), (10, 0, "on "))]
    behind = [WAITING, NEXT, row(0), feed(10, (10, 3, "at once ")), feed(60), NEXT, NEXT, NEXT, NEXT, row(0)]

    def refused(self, number, call, before=None, behind=None):
        before = self.before if before is None else before
        behind = self.behind if behind is None else behind
        told = ask(*before, call, *behind)
        self.assertEqual(told[len(before)], [number])
        self.assertEqual(told[:len(before)] + told[len(before) + 1:], ask(*before, *behind))

    def taken(self, call, before=None):
        before = self.before if before is None else before
        self.assertEqual(ask(*before, call)[-1], [0])


class Sizes(FeedCase):
    def test_most_edits(self):
        self.taken(raw_feed(10, [10, 0, 0] * 256, []))
        self.refused(-1, raw_feed(10, [10, 0, 0] * 257, []))
        self.refused(-1, raw_feed(10, [10, 0, 0] * 256 + [10], []))

    def test_most_bytes(self):
        self.taken(feed(10, (10, 0, "b" * 4096)))
        self.refused(-1, feed(10, (10, 0, "b" * 4097)))
        self.taken(feed(10, (10, 0, "b" * 4000), (10, 0, "b" * 96)))
        self.refused(-1, feed(10, (10, 0, "b" * 4000), (10, 0, "b" * 97)))
        self.refused(-1, feed(10, (10, 0, "\u20ac" * 1366)))
        self.taken(feed(10, (10, 0, "\u20ac" * 1365)))

    def test_numbers_left_over(self):
        self.refused(-1, raw_feed(10, [10], []))
        self.refused(-1, raw_feed(10, [10, 0], []))
        self.refused(-1, raw_feed(10, [10, 0, 1, 10], [97]))
        self.refused(-1, raw_feed(10, [10, 0, 1, 10, 0], [97]))

    def test_bytes_too_few_and_too_many(self):
        self.refused(-1, raw_feed(10, [10, 0, 2], [97]))
        self.refused(-1, raw_feed(10, [10, 0, 1], [97, 97]))
        self.refused(-1, raw_feed(10, [10, 0, 1, 10, 0, 1], [97]))
        self.refused(-1, raw_feed(10, [], [97]))
        self.refused(-1, raw_feed(10, [10, 0, 2 ** 53 - 1], [97]))

    def test_nothing_at_all(self):
        self.taken(raw_feed(10, [], []))


class Bytes(FeedCase):
    def bad(self, *numbers):
        self.refused(-1, feed(10, (10, 0, numbers)))
        self.refused(-1, feed(10, (10, 0, [97] + list(numbers) + [98])))

    def good(self, *numbers):
        self.taken(feed(10, (10, 0, numbers)))

    def test_single(self):
        for number in range(128):
            if number == 10 or 32 <= number <= 126:
                self.good(number)
            else:
                self.bad(number)

    def test_first_bytes_that_begin_nothing(self):
        for number in list(range(128, 194)) + list(range(245, 256)):
            self.bad(number)
            self.bad(number, 128)
            self.bad(number, 128, 128, 128)

    def test_cut_short(self):
        for numbers in ((194,), (226, 130), (226,), (240, 159, 152), (240, 159), (240,)):
            self.bad(*numbers)

    def test_wrong_later_bytes(self):
        for number in (0, 97, 127, 192, 255):
            self.bad(194, number)
            self.bad(226, number, 172)
            self.bad(226, 130, number)
            self.bad(240, number, 152, 128)
            self.bad(240, 159, number, 128)
            self.bad(240, 159, 152, number)

    def test_overlong(self):
        for numbers in ((192, 128), (193, 191), (224, 128, 128), (224, 159, 191), (240, 128, 128, 128),
                        (240, 143, 191, 191)):
            self.bad(*numbers)

    def test_surrogates(self):
        self.bad(237, 160, 128)
        self.bad(237, 191, 191)

    def test_above_the_last(self):
        self.bad(244, 144, 128, 128)
        self.bad(245, 128, 128, 128)

    def test_first_and_last_of_each_form(self):
        for code in (0x80, 0x9F, 0x7FF, 0x800, 0xFFF, 0x1000, 0xCFFF, 0xD000, 0xD7FF, 0xE000, 0xFFFF, 0x10000,
                     0x3FFFF, 0x40000, 0xFFFFF, 0x100000, 0x10FFFF):
            self.good(*chr(code).encode("utf-8"))

    def test_a_character_cut_in_two_by_an_edge(self):
        for text in ("\u00e4", "\u20ac", "\U0001f600"):
            numbers = list(text.encode("utf-8"))
            for cut in range(1, len(numbers)):
                self.refused(-1, feed(10, (10, 0, numbers[:cut]), (10, 0, numbers[cut:])))
            self.taken(feed(10, (10, 0, numbers), (10, 0, numbers)))


class Ticks(FeedCase):
    def test_now_never_falls(self):
        self.refused(-1, feed(9))
        self.refused(-1, feed(0))
        self.taken(feed(10))

    def test_below_the_now_before(self):
        self.refused(-1, feed(12, (9, 0, "x")))
        self.taken(feed(12, (10, 0, "x")))

    def test_above_the_now_it_comes_with(self):
        self.refused(-1, feed(12, (13, 0, "x")))
        self.taken(feed(12, (12, 0, "x")))

    def test_below_the_edit_before(self):
        self.refused(-1, feed(20, (15, 0, "x"), (14, 0, "y")))
        self.taken(feed(20, (15, 0, "x"), (15, 0, "y")))

    def test_the_last_now(self):
        self.taken(feed(2 ** 40 - 1))
        self.taken(feed(2 ** 40 - 1, (2 ** 40 - 1, 0, "x")))
        self.refused(-1, feed(2 ** 40))
        self.refused(-1, feed(2 ** 53 - 1))


class Length(FeedCase):
    def test_most_characters(self):
        self.assertEqual(ask(*full())[1:], [[0]] * 4)
        self.refused(-2, feed(0, (0, 0, "a")), full(), [WAITING, feed(1, (0, 1, "a")), WAITING, row(0), row(1)])

    def test_characters_are_counted_not_bytes(self):
        # 9,000 characters in 18,000 bytes.
        wide = [begin()] + [feed(0, (0, 0, "\u00e4" * 1800))] * 5
        self.assertEqual(ask(*wide)[1:], [[0]] * 5)

    def test_an_edit_in_the_midst(self):
        behind = [WAITING, feed(1), WAITING, row(0), row(1)]
        self.refused(-2, feed(0, (0, 0, "a"), (0, 1, "")), full(), behind)
        self.refused(-2, feed(0, (0, 5, ""), (0, 0, "abcdef"), (0, 9, "")), full(), behind)
        self.taken(feed(0, (0, 1, ""), (0, 0, "a"), (0, 1, "b")), full())

    def test_more_back_than_is_written(self):
        self.taken(feed(0, (0, 2 ** 53 - 1, "a"), (0, 0, "b")), full())

    def test_behind_what_is_wrong_and_before_what_waits(self):
        self.refused(-1, feed(0, (0, 0, "a\x7f")), full(), [WAITING])
        shown_all = told_full()
        self.refused(-4, feed(5, (4, 2, "b\n")), shown_all, [WAITING, NEXT])
        self.refused(-2, feed(5, (4, 1, "b\n")), shown_all, [WAITING, NEXT])


class Waiting(FeedCase):
    def steps(self, first, count, text="a "):
        return feed(first + count, *[(first + k, 0, text) for k in range(count)])

    def test_most_tellings(self):
        before = [begin(idle=600000), self.steps(0, 256)]
        self.assertEqual(ask(*before, WAITING), [[0], [0], [256]])
        behind = [WAITING, NEXT, self.steps(256, 1), WAITING, row(0), row(1)]
        self.refused(-4, self.steps(256, 1), before, behind)
        self.refused(-4, feed(2 ** 40 - 1, (256, 0, "a ")), before, behind)

    def test_one_feed_with_one_too_many(self):
        edits = [(k, 0, "a ") for k in range(256)]
        before = [begin(idle=600000, blank=10)]
        self.taken(feed(265, *edits), before)
        self.refused(-4, feed(266, *edits), before, [WAITING, feed(1, edits[0]), NEXT])

    def test_one_too_many_before_another_edit(self):
        before = [begin(idle=600000), self.steps(0, 256)]
        self.refused(-4, feed(400, (256, 0, "a "), (390, 0, "b ")), before, [WAITING, NEXT, feed(300), row(1)])

    def test_one_that_tells_nothing_is_taken(self):
        self.taken(feed(300, (256, 0, " "), (257, 0, "b")), [begin(idle=600000), self.steps(0, 256)])

    def test_what_was_handed_out_waits_no_more(self):
        before = [begin(idle=600000), self.steps(0, 256), NEXT, NEXT]
        self.taken(self.steps(256, 2), before)
        self.refused(-4, self.steps(256, 3), before, [WAITING, NEXT])

    def test_most_characters_put(self):
        before = told_full()
        self.assertEqual(ask(*before, WAITING)[1:], [[0]] * 4 + [[4]])
        self.taken(feed(5, (4, 16384, "")), before)
        behind = [WAITING, feed(5), NEXT, row(0), feed(6, (5, 16384, "b "))]
        self.refused(-4, feed(5, (4, 16384, "b ")), before, behind)
        self.taken(feed(5, (4, 16384, "b ")), before + [NEXT])

    def test_put_together_in_one_feed(self):
        before = told_full()[:-1] + [feed(4, (3, 0, "a\n" * 50))]
        more = (4, 0, "a\n" * 1990)
        self.taken(feed(9, more, (5, 16, "b" * 15 + "\n")), before)
        self.refused(-4, feed(9, more, (5, 16, "b" * 16 + "\n")), before, [WAITING, feed(5), row(0)])

    def test_characters_put_are_counted_not_bytes(self):
        # 10,920 characters in 16,380 bytes, then three more in six.
        texts = ["\u00e4\n" * 1365] * 4
        before = [begin()] + [feed(k + 1, (k, 0, text)) for k, text in enumerate(texts)]
        self.assertEqual(ask(*before, WAITING)[1:], [[0]] * 4 + [[4]])
        self.taken(feed(5, (4, 10920, "\u00e4\u00e4\u00e4 ")), before)

    def test_a_refused_feed_takes_no_edit_in(self):
        before = [begin(idle=600000), self.steps(0, 256)]
        told = ask(*before, feed(300, (256, 400, "b "), (257, 0, "c ")), NEXT, feed(257), WAITING, row(1), NEXT)
        self.assertEqual(told[2:5], [[-4], change(0, 0, "a"), [0]])
        self.assertEqual(told[5], [255])
        self.assertEqual(bytes(told[6][2:]), b"a a a a a a a a")
        self.assertEqual(told[7], change(1, 0, " a"))


if __name__ == "__main__":
    unittest.main()
