"""cues: from when to when which rows stand on the screen."""

import random
import unittest

from tests.calls import ask, begin, change_bytes, clearing_bytes, cues, feed, parted_cues
from tests.plain import plain_cues
from tests.wild import wild_tellings

END = 2 ** 40
ONE = [1, 5, 0, 1, 97]


def found(rows, end, *parts):
    numbers = [number for part in parts for number in part]
    return parted_cues(ask(cues(rows, end, numbers))[0])


class Bounds(unittest.TestCase):
    def test_rows(self):
        for rows in (0, 9, 10, 2 ** 53 - 1):
            self.assertEqual(ask(cues(rows, 9, ONE)), [[-1]])
            self.assertEqual(ask(cues(rows, 9, [])), [[-1]])
        for rows in (1, 8):
            self.assertEqual(ask(cues(rows, 9, ONE)), [[0, 1, 5, 9, 1, 1, 97]])
            self.assertEqual(ask(cues(rows, 9, [])), [[0, 0]])

    def test_end(self):
        for end in (END, END + 1, 2 ** 53 - 1):
            self.assertEqual(ask(cues(1, end, ONE)), [[-1]])
            self.assertEqual(ask(cues(1, end, [])), [[-1]])
        self.assertEqual(ask(cues(1, END - 1, ONE)), [[0, 1, 5, END - 1, 1, 1, 97]])
        self.assertEqual(ask(cues(1, END - 1, [])), [[0, 0]])
        self.assertEqual(ask(cues(1, 0, [])), [[0, 0]])

    def test_bytes_with_a_fault(self):
        faults = (
            [3], [1], [1, 128, 0], [1, 5, 0, 2, 97], [1, 5, 0, 1, 127], [1, 5, 1, 0], [2, 0], [1, 5, 0, 0],
            change_bytes(END - 1, 0, "a") + clearing_bytes(1),
        )
        for numbers in faults:
            # The fault may be of a telling behind the end.
            for front in ([], ONE + clearing_bytes(1)):
                for end in (0, 5, 9, END - 1):
                    self.assertEqual(ask(cues(1, end, front + numbers)), [[-1]], front + numbers)
        for number in (0, 97, 128):
            self.assertEqual(ask(cues(1, 9, ONE + [number])), [[-1]])


class Ends(unittest.TestCase):
    def test_of_one_telling(self):
        self.assertEqual(found(1, 9, ONE), [(5, 9, ["a"])])
        self.assertEqual(found(1, 6, ONE), [(5, 6, ["a"])])
        for end in (0, 4, 5):
            self.assertEqual(found(1, end, ONE), [])

    def test_of_several(self):
        parts = [change_bytes(5, 0, "a"), change_bytes(3, 0, "b"), change_bytes(4, 1, "c")]
        self.assertEqual(found(1, 20, *parts), [(5, 8, ["a"]), (8, 12, ["ab"]), (12, 20, ["ac"])])
        self.assertEqual(found(1, 13, *parts), [(5, 8, ["a"]), (8, 12, ["ab"]), (12, 13, ["ac"])])
        self.assertEqual(found(1, 12, *parts), [(5, 8, ["a"]), (8, 12, ["ab"])])
        self.assertEqual(found(1, 11, *parts), [(5, 8, ["a"]), (8, 11, ["ab"])])
        self.assertEqual(found(1, 9, *parts), [(5, 8, ["a"]), (8, 9, ["ab"])])
        self.assertEqual(found(1, 8, *parts), [(5, 8, ["a"])])
        self.assertEqual(found(1, 7, *parts), [(5, 7, ["a"])])
        self.assertEqual(found(1, 5, *parts), [])

    def test_a_first_telling_at_tick_0(self):
        self.assertEqual(found(1, 9, change_bytes(0, 0, "a")), [(0, 9, ["a"])])
        self.assertEqual(found(1, 1, change_bytes(0, 0, "a")), [(0, 1, ["a"])])
        self.assertEqual(found(1, 0, change_bytes(0, 0, "a")), [])

    def test_a_last_telling_at_the_last_tick(self):
        parts = [change_bytes(END - 2, 0, "a"), change_bytes(1, 0, "b")]
        self.assertEqual(found(1, END - 1, *parts), [(END - 2, END - 1, ["a"])])

    def test_each_telling_has_its_own(self):
        # The window is the same, but it's not one cue.
        parts = [change_bytes(1, 0, "a\nb"), change_bytes(1, 3, "c\nb")]
        self.assertEqual(found(1, 9, *parts), [(1, 2, ["b"]), (2, 9, ["b"])])


class Empty(unittest.TestCase):
    def test_behind_a_clearing(self):
        parts = [change_bytes(5, 0, "a"), clearing_bytes(3), change_bytes(4, 0, "b"), clearing_bytes(1)]
        self.assertEqual(found(1, 20, *parts), [(5, 8, ["a"]), (12, 13, ["b"])])
        self.assertEqual(found(1, 10, *parts), [(5, 8, ["a"])])
        self.assertEqual(found(1, 7, *parts), [(5, 7, ["a"])])

    def test_behind_a_change_that_takes_all_back(self):
        parts = [change_bytes(5, 0, "so"), change_bytes(3, 2, ""), change_bytes(4, 0, "b")]
        self.assertEqual(found(1, 20, *parts), [(5, 8, ["so"]), (12, 20, ["b"])])

    def test_what_was_cleared_does_not_come_again(self):
        parts = [change_bytes(5, 0, "so\nwe"), clearing_bytes(3), change_bytes(4, 0, "go")]
        self.assertEqual(found(8, 20, *parts), [(5, 8, ["so", "we"]), (12, 20, ["go"])])


class Rows(unittest.TestCase):
    def test_more_lines_than_rows(self):
        text = "a\nbb\nccc\nd\ne\nf\ng\nh\ni\nj"
        for rows in range(1, 9):
            self.assertEqual(found(rows, 9, change_bytes(5, 0, text)), [(5, 9, text.split("\n")[-rows:])])

    def test_just_as_many_lines_and_fewer(self):
        for rows in (3, 4, 8):
            self.assertEqual(found(rows, 9, change_bytes(5, 0, "a\nb\nc")), [(5, 9, ["a", "b", "c"])])
        self.assertEqual(found(2, 9, change_bytes(5, 0, "a\nb\nc")), [(5, 9, ["b", "c"])])

    def test_empty_rows(self):
        self.assertEqual(found(8, 9, change_bytes(5, 0, "\n")), [(5, 9, ["", ""])])
        self.assertEqual(found(1, 9, change_bytes(5, 0, "\n")), [(5, 9, [""])])
        self.assertEqual(found(8, 9, change_bytes(5, 0, "\n\na\n\n")), [(5, 9, ["", "", "a", "", ""])])
        self.assertEqual(found(3, 9, change_bytes(5, 0, "\n\na\n\n")), [(5, 9, ["a", "", ""])])
        self.assertEqual(found(2, 9, change_bytes(5, 0, "\n\na\n\n")), [(5, 9, ["", ""])])

    def test_the_text_is_not_laid_again(self):
        text = "  so   " + "a" * 200 + "  \n "
        self.assertEqual(found(8, 9, change_bytes(5, 0, text)), [(5, 9, ["  so   " + "a" * 200 + "  ", " "])])

    def test_line_feeds_taken_back(self):
        parts = [change_bytes(5, 0, "a\nb\nc"), change_bytes(1, 2, ""), change_bytes(1, 1, "")]
        parts.append(change_bytes(1, 1, "y\n"))
        self.assertEqual(found(2, 20, *parts), [
            (5, 6, ["b", "c"]),
            (6, 7, ["a", "b"]),
            (7, 8, ["a", ""]),
            (8, 20, ["ay", ""]),
        ])

    def test_characters_are_taken_back_and_bytes_told(self):
        parts = [change_bytes(5, 0, "\u00e4\u20ac\U0001f600"), change_bytes(1, 2, "\n\u20ac")]
        numbers = [number for part in parts for number in part]
        self.assertEqual(ask(cues(2, 9, numbers)), [[
            0, 2,
            5, 6, 1, 9, 195, 164, 226, 130, 172, 240, 159, 152, 128,
            6, 9, 2, 2, 195, 164, 3, 226, 130, 172,
        ]])


class Apart(unittest.TestCase):
    def test_begun_or_not(self):
        told = ask(cues(1, 9, ONE), begin(rows=2), cues(1, 9, ONE), feed(9, (3, 0, "so ")), cues(1, 9, ONE))
        self.assertEqual(told[::2], [[0, 1, 5, 9, 1, 1, 97]] * 3)

    def test_one_knows_nothing_of_another(self):
        told = ask(cues(1, 9, ONE), cues(1, 9, []), cues(1, 9, [2, 7]), cues(1, 9, ONE))
        self.assertEqual(told, [[0, 1, 5, 9, 1, 1, 97], [0, 0], [-1], [0, 1, 5, 9, 1, 1, 97]])


class Wild(unittest.TestCase):
    def test_as_the_words_say(self):
        for seed in range(1500):
            draw = random.Random(seed)
            numbers = [number for part in wild_tellings(draw, draw.randint(0, 8)) for number in part]
            rows = draw.randint(1, 8)
            end = draw.choice([0, 1, 7, 130, 20000, 2 ** 31, END - 1])
            self.assertEqual(ask(cues(rows, end, numbers)), [plain_cues(rows, end, numbers)], seed)


if __name__ == "__main__":
    unittest.main()
