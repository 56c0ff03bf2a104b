"""The document's examples, as they stand."""

import unittest

from tests.calls import NEXT, WAITING, ask, begin, change, cues, feed, judge, row, shown


class Examples(unittest.TestCase):
    def test_the_document(self):
        calls = [
            begin(16, 2, 100, 1000, 0, 0),
            feed(50, (0, 0, "so we ")),
            WAITING,
            feed(101),
            WAITING,
            NEXT,
            feed(151, (150, 3, "I went on ")),
            NEXT,
            feed(300),
            NEXT,
            feed(401, (300, 0, "and so forth ")),
            NEXT,
            row(0),
            row(1),
            row(2),
            NEXT,
        ]
        self.assertEqual(ask(*calls), [
            [0],
            [0],
            [0],
            [0],
            [1],
            change(100, 0, "so we"),
            [0],
            change(150, 3, ""),
            [0],
            change(250, 0, " I went on"),
            [0],
            change(400, 0, " and\nso forth"),
            shown("so I went on and"),
            shown("so forth"),
            [-1],
            [-3],
        ])

    def test_nothing_is_told_before_its_tick_is_past(self):
        calls = [begin(16, 2, 100, 1000), feed(50, (0, 0, "so we ")), feed(100), WAITING, feed(101), WAITING]
        self.assertEqual(ask(*calls), [[0], [0], [0], [0], [0], [1]])

    def test_a_clearing_of_an_empty_screen(self):
        self.assertEqual(ask(judge([2, 0])), [[-2, 7, 0]])

    def test_one_telling(self):
        numbers = [1, 5, 0, 1, 97]
        self.assertEqual(ask(judge(numbers), cues(1, 9, numbers)), [[1], [0, 1, 5, 9, 1, 1, 97]])

    def test_no_bytes(self):
        self.assertEqual(ask(judge([]), cues(1, 9, [])), [[0], [0, 0]])


if __name__ == "__main__":
    unittest.main()
