"""Release: hold, idle, words' ends, lines' ends, edits that go back."""

import unittest

from tests.calls import NEXT, WAITING, ask, begin, change, clearing, feed, tellings, window


class Hold(unittest.TestCase):
    def test_none(self):
        self.assertEqual(tellings(begin(hold=0), feed(6, (5, 0, "so we "))), [change(5, 0, "so we")])

    def test_some(self):
        for hold in (1, 7, 30000):
            rules = begin(hold=hold, idle=600000)
            self.assertEqual(tellings(rules, feed(5 + hold, (5, 0, "so "))), [])
            self.assertEqual(tellings(rules, feed(6 + hold, (5, 0, "so "))), [change(5 + hold, 0, "so")])

    def test_only_whole_words(self):
        calls = [begin(hold=3), feed(20, (5, 0, "so we g"), (9, 0, "o "))]
        self.assertEqual(tellings(*calls), [change(8, 0, "so we"), change(12, 0, " go")])

    def test_a_word_that_never_ends(self):
        self.assertEqual(tellings(begin(hold=3), feed(900, (5, 0, "so"))), [])

    def test_the_space_behind_a_word_is_held_too(self):
        calls = [begin(hold=3), feed(20, (5, 0, "so"), (9, 0, " "))]
        self.assertEqual(tellings(*calls), [change(12, 0, "so")])

    def test_a_line_feed_ends_a_word(self):
        calls = [begin(hold=3), feed(20, (5, 0, "so\nwe"))]
        self.assertEqual(tellings(*calls), [change(8, 0, "so\n")])

    def test_spaces_alone_tell_nothing(self):
        self.assertEqual(tellings(begin(hold=0), feed(9, (0, 0, "   "), (1, 0, "  "))), [])

    def test_at_tick_0(self):
        self.assertEqual(tellings(begin(hold=0), feed(1, (0, 0, "so "))), [change(0, 0, "so")])
        self.assertEqual(tellings(begin(hold=0), feed(0, (0, 0, "so "))), [])

    def test_a_character_counts_from_its_own_put(self):
        calls = [begin(hold=10), feed(50, (0, 0, "so we "), (5, 3, "me "))]
        self.assertEqual(tellings(*calls), [change(10, 0, "so"), change(15, 0, " me")])


class Idle(unittest.TestCase):
    def test_behind_the_last_edit(self):
        rules = begin(hold=3, idle=40)
        self.assertEqual(tellings(rules, feed(45, (5, 0, "so we g"))), [change(8, 0, "so we")])
        told = [change(8, 0, "so we"), change(45, 0, " g")]
        self.assertEqual(tellings(rules, feed(46, (5, 0, "so we g"))), told)

    def test_before_any_edit(self):
        rules = begin(hold=3, idle=40)
        self.assertEqual(tellings(rules, feed(39), feed(45, (39, 0, "g"))), [])
        self.assertEqual(tellings(rules, feed(60), feed(99, (60, 0, "g"))), [])
        self.assertEqual(tellings(rules, feed(60), feed(101, (60, 0, "g"))), [change(100, 0, "g")])

    def test_an_edit_puts_it_off(self):
        calls = [begin(hold=3, idle=40), feed(99, (5, 0, "g"), (44, 0, "o"))]
        self.assertEqual(tellings(*calls), [change(84, 0, "go")])
        calls = [begin(hold=3, idle=40), feed(99, (5, 0, "g"), (45, 0, "o"))]
        self.assertEqual(tellings(*calls), [change(85, 0, "go")])

    def test_an_edit_that_does_nothing_puts_it_off_too(self):
        calls = [begin(hold=3, idle=40), feed(99, (5, 0, "g"), (44, 0, ""))]
        self.assertEqual(tellings(*calls), [change(84, 0, "g")])

    def test_idle_as_short_as_hold(self):
        calls = [begin(hold=5, idle=5), feed(99, (1, 0, "so we g"))]
        self.assertEqual(tellings(*calls), [change(6, 0, "so we g")])

    def test_idle_1_hold_0(self):
        calls = [begin(hold=0, idle=1), feed(99, (1, 0, "so g"))]
        self.assertEqual(tellings(*calls), [change(1, 0, "so"), change(2, 0, " g")])

    def test_what_is_released_in_the_midst_of_a_word_stays(self):
        calls = [begin(hold=3, idle=10), feed(99, (0, 0, "so g"), (20, 0, "oo"), (22, 0, "d "))]
        told = [change(3, 0, "so"), change(10, 0, " g"), change(25, 0, "ood")]
        self.assertEqual(tellings(*calls), told)

    def test_a_word_released_in_its_midst_may_move_to_a_new_line(self):
        calls = [begin(hold=0, idle=10), feed(99, (0, 0, "so I went on a d"), (20, 0, "o "))]
        told = [change(0, 0, "so I went on a"), change(10, 0, " d"), change(20, 2, "\ndo")]
        self.assertEqual(tellings(*calls), told)


class Byline(unittest.TestCase):
    rules = begin(hold=3, idle=600, byline=1)

    def test_only_whole_lines(self):
        self.assertEqual(tellings(self.rules, feed(99, (0, 0, "so I went on and "))), [])
        calls = [self.rules, feed(99, (0, 0, "so I went on and "), (20, 0, "s"))]
        self.assertEqual(tellings(*calls), [change(20, 0, "so I went on and")])

    def test_behind_a_line_feed(self):
        calls = [self.rules, feed(99, (0, 0, "so\n"), (20, 0, "we go"))]
        self.assertEqual(tellings(*calls), [change(3, 0, "so\n")])

    def test_spaces_before_a_line_feed(self):
        calls = [self.rules, feed(99, (0, 0, "so "), (20, 0, "\nwe"))]
        self.assertEqual(tellings(*calls), [change(20, 0, "so"), change(23, 0, "\n")])

    def test_the_words_behind_need_no_hold(self):
        calls = [self.rules, feed(99, (0, 0, "so I went on a "), (20, 0, "d"), (30, 0, "o"))]
        self.assertEqual(tellings(*calls), [change(30, 0, "so I went on a")])

    def test_the_space_before_is_held(self):
        calls = [self.rules, feed(99, (0, 0, "so I went on and"), (20, 0, " so"))]
        self.assertEqual(tellings(*calls), [change(23, 0, "so I went on and")])

    def test_a_long_word_has_no_end_in_it(self):
        calls = [self.rules, feed(99, (0, 0, "a" * 40), (20, 0, " b "))]
        self.assertEqual(tellings(*calls), [])
        calls = [self.rules, feed(99, (0, 0, "so " + "a" * 14), (20, 0, " b "))]
        self.assertEqual(tellings(*calls), [change(3, 0, "so")])
        calls = [self.rules, feed(99, (0, 0, "so " + "a" * 40), (20, 0, " b"))]
        self.assertEqual(tellings(*calls), [change(3, 0, "so")])
        calls = [self.rules, feed(99, (0, 0, "a" * 32), (20, 0, " b"))]
        self.assertEqual(tellings(*calls), [change(23, 0, "a" * 16 + "\n" + "a" * 16)])

    def test_several_lines_at_once(self):
        calls = [self.rules, feed(99, (0, 0, "so I went on and so forth I went on and o"))]
        self.assertEqual(tellings(*calls), [change(3, 0, "so I went on and\nso forth I went")])

    def test_idle_releases_the_rest(self):
        calls = [begin(hold=3, idle=60, byline=1), feed(99, (0, 0, "so I went on and so"))]
        self.assertEqual(tellings(*calls), [change(3, 0, "so I went on and"), change(60, 0, "\nso")])

    def test_a_line_that_was_released_stays_so(self):
        calls = [self.rules, feed(99, (0, 0, "so I went on a do"), (20, 1, ""))]
        self.assertEqual(tellings(*calls), [change(3, 0, "so I went on a")])

    def test_with_something_gone_lines_begin_there(self):
        # Idle releases "so I" in the midst of a line. Once it's gone, the line has room for "so".
        rules = begin(hold=0, idle=9, byline=1, blank=5)
        told = [change(9, 0, "so I"), clearing(14)]
        self.assertEqual(tellings(rules, feed(28, (0, 0, "so I "), (20, 0, "went on and so"))), told)
        told = told + [change(20, 0, "went on and so")]
        self.assertEqual(tellings(rules, feed(25, (0, 0, "so I "), (20, 0, "went on and so fo"))), told)

    def test_with_nothing_gone_lines_begin_at_the_front(self):
        rules = begin(hold=0, idle=9, byline=1)
        told = [change(9, 0, "so I"), change(20, 0, " went on and")]
        self.assertEqual(tellings(rules, feed(28, (0, 0, "so I "), (20, 0, "went on and so"))), told)

    def test_more_may_be_released_one_tick_behind_a_clearing(self):
        # With ten of forty gone the long word is cut at other places, so its rest leaves no room
        # for the word behind it.
        rules = begin(hold=0, idle=9, byline=1, blank=5)
        calls = [rules, feed(60, (0, 0, "a" * 10), (10, 0, "a" * 30 + " bbbbb"))]
        self.assertEqual(tellings(*calls), [
            change(9, 0, "a" * 10),
            clearing(14),
            change(15, 0, "a" * 16 + "\n" + "a" * 14),
            change(19, 0, "\nbbbbb"),
            clearing(24),
        ])


class SeveralFeeds(unittest.TestCase):
    def test_edits_of_one_tick(self):
        one = tellings(begin(hold=0), feed(9, (4, 0, "so "), (4, 1, "me "), (4, 3, "on ")))
        self.assertEqual(one, [change(4, 0, "soon")])
        more = tellings(begin(hold=0), feed(4, (4, 0, "so ")), feed(4, (4, 1, "me ")), feed(4, (4, 3, "on ")), feed(9))
        self.assertEqual(more, one)

    def test_the_tick_of_now_is_open(self):
        told = ask(begin(hold=0), feed(4, (4, 0, "so ")), WAITING, feed(4), WAITING, feed(5), NEXT, NEXT)
        self.assertEqual(told[1:], [[0], [0], [0], [0], [0], change(4, 0, "so"), [-3]])


class Back(unittest.TestCase):
    def test_more_than_is_written(self):
        calls = [begin(hold=0), feed(20, (0, 0, "so "), (9, 500, "we "), (11, 2 ** 53 - 1, ""))]
        self.assertEqual(tellings(*calls), [change(0, 0, "so"), change(9, 2, "we"), change(11, 2, "")])

    def test_before_it_is_released(self):
        calls = [begin(hold=10), feed(50, (0, 0, "so we "), (9, 3, "I "))]
        self.assertEqual(tellings(*calls), [change(10, 0, "so"), change(19, 0, " I")])

    def test_into_what_is_released(self):
        calls = [begin(hold=10), feed(50, (0, 0, "so we "), (20, 2, "as "))]
        self.assertEqual(tellings(*calls), [change(10, 0, "so we"), change(20, 1, ""), change(30, 0, "as")])

    def test_into_a_line_before(self):
        calls = [begin(hold=0), feed(50, (0, 0, "so I went on and so forth "), (20, 14, "as "))]
        told = [change(0, 0, "so I went on and\nso forth"), change(20, 13, "as")]
        self.assertEqual(tellings(*calls), told)

    def test_taken_back_and_put_again_at_one_tick(self):
        calls = [begin(hold=0), feed(50, (0, 0, "so we "), (20, 3, "we "))]
        self.assertEqual(tellings(*calls), [change(0, 0, "so we")])
        calls = [begin(hold=1), feed(50, (0, 0, "so we "), (20, 3, "we "))]
        self.assertEqual(tellings(*calls), [change(1, 0, "so we"), change(20, 3, ""), change(21, 0, " we")])

    def test_as_few_back_as_can_be(self):
        calls = [begin(hold=0), feed(50, (0, 0, "so we went "), (20, 8, "wept "))]
        self.assertEqual(tellings(*calls), [change(0, 0, "so we went"), change(20, 5, "pt")])

    def test_into_what_is_gone(self):
        rules = begin(hold=0, blank=5)
        calls = [rules, feed(50, (0, 0, "so we go "), (20, 6, "as "))]
        self.assertEqual(tellings(*calls), [change(0, 0, "so we go"), clearing(5), change(20, 0, "as"), clearing(25)])

    def test_into_what_is_gone_in_the_midst_of_a_word(self):
        calls = [begin(hold=0, blank=5), feed(50, (0, 0, "so we go "), (20, 2, "et on "))]
        self.assertEqual(tellings(*calls)[2:], [change(20, 0, "et on"), clearing(25)])

    def test_all_of_the_screen_taken_back(self):
        calls = [begin(hold=0), feed(9, (0, 0, "so "), (5, 3, ""))]
        self.assertEqual(tellings(*calls), [change(0, 0, "so"), change(5, 2, "")])
        self.assertEqual(window(*calls), [""])


if __name__ == "__main__":
    unittest.main()
