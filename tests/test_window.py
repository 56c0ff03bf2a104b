"""row, waiting and next: what's handed out of the window and of what waits."""

import unittest

from tests.calls import NEXT, WAITING, ask, begin, change, clearing, feed, row, shown


class Row(unittest.TestCase):
    def test_an_empty_screen_is_one_empty_row(self):
        for rows in (1, 2, 8):
            told = ask(begin(rows=rows), row(0), row(1), row(8), row(2 ** 53 - 1))
            self.assertEqual(told[1:], [[0, 0], [-1], [-1], [-1]])

    def test_one_row(self):
        told = ask(begin(rows=1), feed(1, (0, 0, "a\nb ")), row(0), row(1), row(2))
        self.assertEqual(told[2:], [shown("b"), [-1], [-1]])

    def test_eight_rows(self):
        text = "\n".join("abcdefghij") + " "
        told = ask(begin(rows=8), feed(1, (0, 0, text)), *[row(which) for which in range(10)])
        self.assertEqual(told[2:], [shown(sign) for sign in "cdefghij"] + [[-1], [-1]])

    def test_fewer_lines_than_rows(self):
        told = ask(begin(rows=8), feed(1, (0, 0, "a\nb ")), row(0), row(1), row(2), row(7))
        self.assertEqual(told[2:], [shown("a"), shown("b"), [-1], [-1]])

    def test_bytes_are_told(self):
        told = ask(begin(), feed(1, (0, 0, "\u00e4\u20ac\U0001f600 ")), row(0))
        self.assertEqual(told[2], [0, 9, 195, 164, 226, 130, 172, 240, 159, 152, 128])

    def test_the_screen_does_not_wait_for_next(self):
        calls = [begin(), feed(2, (0, 0, "so "), (1, 0, "we ")), row(0), NEXT, row(0), NEXT, row(0)]
        told = ask(*calls)
        self.assertEqual([told[2], told[4], told[6]], [shown("so we")] * 3)

    def test_an_edit_whose_tick_is_not_past_shows_nothing_yet(self):
        calls = [begin(), feed(2, (0, 0, "so "), (2, 3, "we ")), row(0), feed(3), row(0)]
        self.assertEqual(ask(*calls)[2:], [shown("so"), [0], shown("we")])

    def test_changes_nothing(self):
        calls = [begin(), feed(2, (0, 0, "so "))]
        self.assertEqual(ask(*calls, row(0), row(9), row(0), WAITING, NEXT)[2:],
                         [shown("so"), [-1], shown("so"), [1], change(0, 0, "so")])


class Next(unittest.TestCase):
    def test_one_after_another(self):
        calls = [begin(blank=5), feed(20, (0, 0, "so "), (3, 0, "we "), (9, 0, "go "))]
        told = ask(*calls, WAITING, NEXT, WAITING, NEXT, WAITING, NEXT, NEXT, NEXT, WAITING, NEXT, WAITING, NEXT)
        self.assertEqual(told[2:], [
            [5],
            change(0, 0, "so"),
            [4],
            change(3, 0, " we"),
            [3],
            clearing(8),
            change(9, 0, "go"),
            clearing(14),
            [0],
            [-3],
            [0],
            [-3],
        ])

    def test_none_waits(self):
        self.assertEqual(ask(begin(), NEXT, WAITING, NEXT), [[0], [-3], [0], [-3]])

    def test_more_comes_behind_what_waits(self):
        calls = [begin(), feed(1, (0, 0, "so ")), feed(2, (1, 0, "we ")), NEXT, feed(3, (2, 0, "go ")), NEXT, NEXT, NEXT]
        told = ask(*calls)
        self.assertEqual([told[3]] + told[5:], [change(0, 0, "so"), change(1, 0, " we"), change(2, 0, " go"), [-3]])

    def test_bytes_put_are_told(self):
        told = ask(begin(), feed(2, (0, 0, "\u20ac "), (1, 2, "")), NEXT, NEXT)
        self.assertEqual(told[2:], [[0, 1, 0, 0, 3, 226, 130, 172], [0, 1, 1, 1, 0]])


if __name__ == "__main__":
    unittest.main()
