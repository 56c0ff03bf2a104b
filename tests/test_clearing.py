"""Clearings, and a now that is far ahead."""

import unittest

from tests.calls import NEXT, WAITING, ask, begin, change, clearing, feed, row, tellings, window

FAR = 2 ** 40 - 1


class Clearings(unittest.TestCase):
    def test_none_without_blank(self):
        self.assertEqual(tellings(begin(blank=0), feed(FAR, (3, 0, "so "))), [change(3, 0, "so")])

    def test_blank_ticks_behind_the_last_telling(self):
        for blank in (1, 5, 600000):
            rules = begin(blank=blank)
            self.assertEqual(tellings(rules, feed(3 + blank, (3, 0, "so "))), [change(3, 0, "so")])
            told = [change(3, 0, "so"), clearing(3 + blank)]
            self.assertEqual(tellings(rules, feed(4 + blank, (3, 0, "so "))), told)

    def test_a_change_puts_it_off(self):
        calls = [begin(blank=5), feed(30, (3, 0, "so "), (7, 0, "we "))]
        self.assertEqual(tellings(*calls), [change(3, 0, "so"), change(7, 0, " we"), clearing(12)])

    def test_an_edit_that_shows_nothing_does_not(self):
        calls = [begin(blank=5), feed(30, (3, 0, "so "), (7, 0, "we"))]
        self.assertEqual(tellings(*calls), [change(3, 0, "so"), clearing(8)])

    def test_a_change_and_a_clearing_at_one_tick(self):
        calls = [begin(blank=5), feed(30, (3, 0, "so "), (8, 0, "we "))]
        self.assertEqual(tellings(*calls), [change(3, 0, "so"), change(8, 0, " we"), clearing(13)])

    def test_none_for_an_empty_screen(self):
        self.assertEqual(tellings(begin(blank=5), feed(FAR)), [])
        self.assertEqual(tellings(begin(blank=5), feed(FAR, (0, 0, "   "))), [])
        calls = [begin(blank=5), feed(FAR, (3, 0, "so "), (4, 3, ""))]
        self.assertEqual(tellings(*calls), [change(3, 0, "so"), change(4, 2, "")])

    def test_one_for_empty_lines(self):
        calls = [begin(blank=5), feed(FAR, (3, 0, "\n"))]
        self.assertEqual(tellings(*calls), [change(3, 0, "\n"), clearing(8)])

    def test_the_screen_is_empty_then(self):
        calls = [begin(blank=5), feed(9, (3, 0, "so I went on and so forth "))]
        self.assertEqual(window(*calls), [""])
        self.assertEqual(ask(*calls, row(0), row(1))[2:], [[0, 0], [-1]])

    def test_what_is_told_behind_one(self):
        calls = [begin(blank=5), feed(30, (3, 0, "so I went on "), (20, 0, "and so forth "), (22, 0, "we "))]
        self.assertEqual(tellings(*calls), [
            change(3, 0, "so I went on"),
            clearing(8),
            change(20, 0, "and so forth"),
            change(22, 0, " we"),
            clearing(27),
        ])

    def test_what_was_not_released_is_not_gone(self):
        calls = [begin(hold=2, blank=5), feed(30, (3, 0, "so I we"), (20, 0, "nt "))]
        self.assertEqual(tellings(*calls), [change(5, 0, "so I"), clearing(10), change(22, 0, "went"), clearing(27)])

    def test_a_word_gone_in_its_midst(self):
        calls = [begin(hold=2, idle=6, blank=5), feed(30, (3, 0, "so I we"), (20, 0, "nt "))]
        self.assertEqual(tellings(*calls), [
            change(5, 0, "so I"),
            change(9, 0, " we"),
            clearing(14),
            change(22, 0, "nt"),
            clearing(27),
        ])

    def test_line_feeds_behind_what_is_gone(self):
        calls = [begin(blank=5), feed(30, (3, 0, "so\n"), (20, 0, "\nwe "))]
        self.assertEqual(tellings(*calls), [change(3, 0, "so\n"), clearing(8), change(20, 0, "\nwe"), clearing(25)])

    def test_a_clearing_at_each_tick_but_one(self):
        edits = [(tick, 0, "a ") for tick in range(0, 20, 2)]
        told = tellings(begin(blank=1), feed(30, *edits))
        wanted = []
        for tick in range(0, 20, 2):
            wanted += [change(tick, 0, "a"), clearing(tick + 1)]
        self.assertEqual(told, wanted)


class FarAhead(unittest.TestCase):
    def test_nothing_written(self):
        for blank in (0, 1, 600000):
            self.assertEqual(ask(begin(blank=blank), feed(FAR), WAITING, row(0)), [[0], [0], [0], [0, 0]])

    def test_without_blank(self):
        calls = [begin(hold=30000, idle=600000), feed(FAR, (7, 0, "so we g"))]
        self.assertEqual(tellings(*calls), [change(30007, 0, "so we"), change(600007, 0, " g")])

    def test_with_blank(self):
        calls = [begin(hold=30000, idle=600000, blank=500), feed(FAR, (7, 0, "so we g"))]
        self.assertEqual(tellings(*calls), [
            change(30007, 0, "so we"),
            clearing(30507),
            change(600007, 0, "g"),
            clearing(600507),
        ])

    def test_by_lines(self):
        calls = [begin(hold=30000, idle=600000, byline=1, blank=600000), feed(FAR, (7, 0, "so I went on and so g"))]
        self.assertEqual(tellings(*calls), [
            change(30007, 0, "so I went on and"),
            change(600007, 0, "\nso g"),
            clearing(1200007),
        ])

    def test_edits_far_apart(self):
        edits = [(10 ** 11, 0, "so "), (5 * 10 ** 11, 0, "we "), (10 ** 12, 0, "go")]
        self.assertEqual(tellings(begin(hold=5, blank=9), feed(FAR, *edits)), [
            change(10 ** 11 + 5, 0, "so"),
            clearing(10 ** 11 + 14),
            change(5 * 10 ** 11 + 5, 0, "we"),
            clearing(5 * 10 ** 11 + 14),
            change(10 ** 12 + 1000, 0, "go"),
            clearing(10 ** 12 + 1009),
        ])

    def test_an_edit_at_the_last_tick(self):
        calls = [begin(), feed(FAR, (FAR - 1, 0, "so "), (FAR, 0, "we ")), NEXT, NEXT, feed(FAR), NEXT]
        self.assertEqual(ask(*calls)[1:], [[0], change(FAR - 1, 0, "so"), [-3], [0], [-3]])

    def test_many_texts_of_many_ticks(self):
        edits = [(3 * k, 0, "word ") for k in range(120)]
        calls = [begin(hold=30000, idle=600000, blank=1), feed(500, *edits), feed(FAR), WAITING]
        self.assertEqual(ask(*calls)[1:], [[0], [0], [240]])


if __name__ == "__main__":
    unittest.main()
