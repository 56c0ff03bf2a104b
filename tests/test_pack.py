"""pack: a telling as bytes."""

import unittest

from tests.calls import ask, begin, judge, pack, shown

END = 2 ** 40

NUMBERS = (
    (0, [0]),
    (1, [1]),
    (127, [127]),
    (128, [128, 1]),
    (129, [129, 1]),
    (255, [255, 1]),
    (256, [128, 2]),
    (16383, [255, 127]),
    (16384, [128, 128, 1]),
    (2097151, [255, 255, 127]),
    (2097152, [128, 128, 128, 1]),
    (2 ** 28 - 1, [255, 255, 255, 127]),
    (2 ** 28, [128, 128, 128, 128, 1]),
    (2 ** 35 - 1, [255, 255, 255, 255, 127]),
    (2 ** 35, [128, 128, 128, 128, 128, 1]),
    (END - 1, [255, 255, 255, 255, 255, 31]),
)

TOO_HIGH = (END, END + 1, 2 ** 42, 2 ** 53 - 1)


def packed(*telling):
    told = ask(pack(*telling))[0]
    assert told[0] == 0 and told[1] == len(told) - 2, told
    return told[2:]


class Numbers(unittest.TestCase):
    def test_ticks(self):
        for number, sevens in NUMBERS:
            self.assertEqual(packed(0, number, 3, ""), [1] + sevens + [3, 0])
            self.assertEqual(packed(1, number, 0, ""), [2] + sevens)

    def test_back(self):
        for number, sevens in NUMBERS:
            self.assertEqual(packed(0, 3, number, "a"), [1, 3] + sevens + [1, 97])

    def test_how_many_bytes(self):
        for number, sevens in NUMBERS:
            if 1 <= number <= 4096:
                self.assertEqual(packed(0, 3, 0, "a" * number), [1, 3, 0] + sevens + [97] * number)

    def test_too_high(self):
        for number in TOO_HIGH:
            changes = ((0, number, 1, "a"), (0, 1, number, "a"), (0, 1, number, ""))
            for telling in changes + ((1, number, 0, ""), (1, 0, number, "")):
                self.assertEqual(ask(pack(*telling)), [[-1]], telling)

    def test_in_the_answer_how_many_come_first(self):
        self.assertEqual(ask(pack(0, 5, 0, "a")), [[0, 5, 1, 5, 0, 1, 97]])
        self.assertEqual(ask(pack(1, 300, 0, "")), [[0, 3, 2, 172, 2]])


class Clear(unittest.TestCase):
    def test_bounds(self):
        self.assertEqual(ask(pack(0, 1, 1, "")), [[0, 4, 1, 1, 1, 0]])
        self.assertEqual(ask(pack(1, 1, 0, "")), [[0, 2, 2, 1]])
        for clear in (2, 3, 256, 2 ** 53 - 1):
            for telling in ((clear, 1, 0, ""), (clear, 1, 1, ""), (clear, 1, 0, "a")):
                self.assertEqual(ask(pack(*telling)), [[-1]], telling)

    def test_a_clearing_with_any(self):
        for telling in ((1, 1, 1, ""), (1, 1, 0, "a"), (1, 1, 1, "a"), (1, 0, END - 1, ""), (1, 0, 0, "\n")):
            self.assertEqual(ask(pack(*telling)), [[-1]], telling)

    def test_a_change_with_nothing(self):
        for ticks in (0, 1, END - 1):
            self.assertEqual(ask(pack(0, ticks, 0, "")), [[-1]])

    def test_a_change_with_only_one(self):
        self.assertEqual(packed(0, 1, 2, ""), [1, 1, 2, 0])
        self.assertEqual(packed(0, 1, 0, "ab"), [1, 1, 0, 2, 97, 98])
        self.assertEqual(packed(0, 1, 2, "ab"), [1, 1, 2, 2, 97, 98])

    def test_tick_0(self):
        self.assertEqual(packed(0, 0, 0, "a"), [1, 0, 0, 1, 97])
        self.assertEqual(packed(1, 0, 0, ""), [2, 0])


class Bytes(unittest.TestCase):
    def test_4096(self):
        self.assertEqual(packed(0, 1, 0, "a" * 4096), [1, 1, 0, 128, 32] + [97] * 4096)
        self.assertEqual(ask(pack(0, 1, 0, "a" * 4097)), [[-1]])
        self.assertEqual(ask(pack(1, 1, 0, "a" * 4097)), [[-1]])
        # Bytes are counted here, not characters.
        self.assertEqual(len(packed(0, 1, 0, "\u20ac" * 1365)), 5 + 4095)
        self.assertEqual(ask(pack(0, 1, 0, "\u20ac" * 1366)), [[-1]])

    def test_how_many_bytes_are_told_not_characters(self):
        self.assertEqual(packed(0, 1, 0, "\u20ac"), [1, 1, 0, 3, 226, 130, 172])

    def test_not_characters(self):
        broken = ([0], [9], [13], [31], [127], [128], [192, 128], [226, 130], [237, 160, 128], [244, 144, 128, 128])
        for numbers in broken + ([255],):
            for text in (numbers, [97] + numbers, numbers + [97]):
                self.assertEqual(ask(pack(0, 1, 0, text)), [[-1]], text)

    def test_line_feeds_and_spaces_stay(self):
        self.assertEqual(packed(0, 1, 0, " \n \n"), [1, 1, 0, 4, 32, 10, 32, 10])


class Apart(unittest.TestCase):
    def test_begun_or_not(self):
        told = ask(pack(0, 5, 0, "a"), begin(), pack(0, 5, 0, "a"))
        self.assertEqual(told, [shown([1, 5, 0, 1, 97]), [0], shown([1, 5, 0, 1, 97])])

    def test_a_later_pack_knows_nothing_of_an_earlier_one(self):
        told = ask(pack(0, 5, 0, "a"), pack(0, 0, 99, ""), pack(1, 0, 0, ""), pack(1, 0, 0, ""), judge([]))
        self.assertEqual(told, [shown([1, 5, 0, 1, 97]), shown([1, 0, 99, 0]), shown([2, 0]), shown([2, 0]), [0]])


if __name__ == "__main__":
    unittest.main()
