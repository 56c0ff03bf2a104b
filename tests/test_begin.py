"""begin: its bounds, begins that come again, and what's answered before one."""

import unittest

from tests.calls import NEXT, STATE, WAITING, ask, begin, change, cues, feed, judge, lay, pack, row, shown

GOOD = dict(width=16, rows=2, hold=100, idle=1000, byline=0, blank=0)


def good_but(**other):
    return begin(**{**GOOD, **other})


class Bounds(unittest.TestCase):
    def check(self, number, **other):
        self.assertEqual(ask(good_but(**other), WAITING), [[number], [0 if number == 0 else -9]], other)

    def test_width(self):
        for width, number in ((0, -1), (15, -1), (16, 0), (96, 0), (97, -1), (2 ** 53 - 1, -1)):
            self.check(number, width=width)

    def test_rows(self):
        for rows, number in ((0, -1), (1, 0), (8, 0), (9, -1), (2 ** 53 - 1, -1)):
            self.check(number, rows=rows)

    def test_hold(self):
        for hold, number in ((0, 0), (30000, 0), (30001, -1), (2 ** 53 - 1, -1)):
            self.check(number, hold=hold, idle=600000)

    def test_idle(self):
        for idle, number in ((99, -1), (100, 0), (600000, 0), (600001, -1), (2 ** 53 - 1, -1)):
            self.check(number, idle=idle)
        self.check(-1, hold=0, idle=0)
        self.check(0, hold=0, idle=1)
        self.check(0, hold=30000, idle=30000)
        self.check(-1, hold=30000, idle=29999)

    def test_byline(self):
        for byline, number in ((0, 0), (1, 0), (2, -1), (2 ** 53 - 1, -1)):
            self.check(number, byline=byline)

    def test_blank(self):
        for blank, number in ((0, 0), (1, 0), (600000, 0), (600001, -1), (2 ** 53 - 1, -1)):
            self.check(number, blank=blank)


class NotBegun(unittest.TestCase):
    def test_each_call(self):
        for call in (feed(0), feed(5, (0, 0, "a ")), WAITING, NEXT, row(0), row(9), STATE):
            self.assertEqual(ask(call), [[-9]])

    def test_calls_that_need_no_begin(self):
        for call in (lay(16, "a"), pack(0, 1, 0, "a"), judge([]), cues(1, 9, [])):
            self.assertGreaterEqual(ask(call)[0][0], 0)
            self.assertEqual(ask(call, STATE)[1], [-9])

    def test_comes_before_what_else_would_be_refused(self):
        self.assertEqual(ask([1, 2 ** 40, 1, 7, 1, 255]), [[-9]])

    def test_behind_a_refused_begin(self):
        calls = [good_but(width=15), feed(5, (0, 0, "a ")), WAITING, NEXT, row(0), STATE]
        self.assertEqual(ask(*calls), [[-1], [-9], [-9], [-9], [-9], [-9]])

    def test_a_begin_behind_a_refused_one(self):
        self.assertEqual(ask(good_but(rows=9), good_but(), WAITING), [[-1], [0], [0]])


class Again(unittest.TestCase):
    before = [begin(hold=0, idle=9, blank=0), feed(7, (3, 0, "so we "), (6, 0, "go"))]

    def test_all_is_new(self):
        behind = [WAITING, NEXT, row(0), row(1), feed(1, (0, 1, "a ")), NEXT, row(0), feed(9), WAITING]
        fresh = ask(begin(), *behind)
        told = ask(*self.before, begin(), *behind)
        self.assertEqual(told[2:], fresh)
        self.assertEqual(fresh, [[0], [0], [-3], [0, 0], [-1], [0], change(0, 0, "a"), shown("a"), [0], [0]])

    def test_the_last_edit_and_telling_are_forgotten(self):
        behind = [feed(30, (0, 0, "word")), WAITING, NEXT, NEXT]
        rules = begin(hold=0, idle=20, blank=5)
        self.assertEqual(ask(*self.before, rules, *behind)[2:], ask(rules, *behind))

    def test_a_refused_one_leaves_all_as_it_was(self):
        behind = [WAITING, row(0), feed(6), feed(7), NEXT, NEXT, feed(20, (8, 1, "et")), NEXT, row(0)]
        for refused in (good_but(width=97), good_but(idle=0), good_but(byline=2)):
            told = ask(*self.before, refused, *behind)
            self.assertEqual(told[2], [-1])
            self.assertEqual(told[:2] + told[3:], ask(*self.before, *behind))


if __name__ == "__main__":
    unittest.main()
