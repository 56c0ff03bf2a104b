"""judge: bytes as tellings, and the first fault by kind and place."""

import random
import unittest

from tests.calls import ask, begin, change_bytes, clearing_bytes, coded, feed, judge, sevens
from tests.plain import plain_judge
from tests.wild import broken_tellings, wild_tellings

END = 2 ** 40

# What may stand before the telling that is looked at, and how many tellings that is. Behind each
# the last tick is 7 or none, and the screen's text is empty, so the same is asked of what follows.
FRONTS = (
    ([], 0),
    (change_bytes(3, 0, "so we") + clearing_bytes(4), 2),
    (change_bytes(0, 0, "\u20ac\n") + change_bytes(7, 2, ""), 2),
    (change_bytes(1, 0, "so") + change_bytes(2, 1, "e") + clearing_bytes(1)
     + change_bytes(1, 0, "a") + clearing_bytes(2), 5),
)


class Case(unittest.TestCase):
    def well(self, numbers, count):
        for front, before in FRONTS:
            self.assertEqual(ask(judge(front + numbers)), [[before + count]], front + numbers)

    def fault(self, numbers, kind, place):
        """The place is counted from where the numbers begin."""
        for front, before in FRONTS:
            self.assertEqual(ask(judge(front + numbers)), [[-2, kind, len(front) + place]], front + numbers)


class Well(Case):
    def test_no_bytes(self):
        self.well([], 0)

    def test_one_telling(self):
        self.well([1, 5, 0, 1, 97], 1)
        self.well([1, 5, 0, 3, 226, 130, 172], 1)
        self.well([1, 5, 0, 128, 1] + [97] * 128, 1)

    def test_several(self):
        self.well([1, 5, 0, 1, 97, 2, 1], 2)
        self.well([1, 5, 0, 1, 97, 1, 1, 1, 0], 2)
        self.well([1, 5, 0, 1, 97, 1, 1, 1, 1, 98, 2, 128, 1, 1, 1, 0, 1, 10], 4)

    def test_the_fronts(self):
        for front, count in FRONTS:
            self.assertEqual(ask(judge(front)), [[count]])

    def test_a_first_telling_at_tick_0(self):
        self.assertEqual(ask(judge([1, 0, 0, 1, 97])), [[1]])

    def test_bytes_that_look_like_tellings(self):
        self.well([1, 5, 0, 2, 10, 10, 1, 1, 2, 0], 2)


class NoTelling(Case):
    def test_another_byte(self):
        for number in (0, 3, 4, 10, 32, 97, 127, 128, 129, 130, 255):
            self.fault([number], 1, 0)
            self.fault([number, 5, 0, 1, 97], 1, 0)
            self.fault([1, 5, 0, 1, 97, number], 1, 5)
            self.fault([1, 5, 0, 1, 97, 2, 1, number, 1], 1, 7)

    def test_before_all_else(self):
        self.fault([3, 128, 0], 1, 0)

    def test_a_byte_left_over_behind_the_bytes_put(self):
        self.fault([1, 5, 0, 1, 97, 97], 1, 5)


class Numbers(Case):
    """Each of a telling's numbers in its place, with what stands before it."""

    places = ([1], [1, 5], [1, 5, 0], [1, 128, 1], [1, 255, 127, 0], [2])

    def wrong(self, number):
        for before in self.places:
            self.fault(before + number, 2, len(before))
            if number[-1:] and number[-1] < 128:
                self.fault(before + number + [0, 1, 97], 2, len(before))

    def test_cut_short(self):
        self.wrong([])
        for count in range(1, 12):
            self.wrong([128] * count)
            self.wrong([255] * count)

    def test_a_last_byte_0_too_many(self):
        for count in range(1, 12):
            self.wrong([128] * count + [0])
            self.wrong([255] * count + [0])
        self.wrong([133, 0])
        self.wrong([128, 129, 0])

    def test_too_high(self):
        self.wrong(sevens(END))
        self.wrong(sevens(END + 1))
        self.wrong([255, 255, 255, 255, 255, 32])
        self.wrong([128, 128, 128, 128, 128, 32])
        self.wrong([255, 255, 255, 255, 255, 127])

    def test_more_than_six_bytes(self):
        for count in range(6, 12):
            self.wrong([128] * count + [1])
            self.wrong([255] * count + [127])
        self.wrong([128] * 2000 + [1])

    def test_six_bytes(self):
        self.assertEqual(sevens(END - 1), [255, 255, 255, 255, 255, 31])
        self.assertEqual(ask(judge([1] + sevens(END - 1) + [0, 1, 97])), [[1]])
        self.assertEqual(ask(judge([1] + sevens(END) + [0, 1, 97])), [[-2, 2, 1]])
        # A number of its own size is well: what's wrong is told of the telling.
        self.fault([1, 5] + sevens(END - 1) + [0], 5, 0)
        self.fault([1, 5, 0] + sevens(END - 1), 3, 9)
        self.fault([1, 5] + sevens(END) + [0], 2, 2)
        self.fault([1, 5, 0] + sevens(END), 2, 3)

    def test_0_itself(self):
        self.assertEqual(ask(judge([1, 0, 0, 1, 97])), [[1]])
        self.assertEqual(ask(judge([1, 128, 0, 0, 1, 97])), [[-2, 2, 1]])
        self.fault([1, 5, 128, 0, 1, 97], 2, 2)
        self.fault([1, 5, 0, 129, 0, 97], 2, 3)

    def test_one_after_another(self):
        self.fault([1, 128, 0, 128, 0, 128, 0], 2, 1)
        self.fault([1, 5, 128, 0, 128, 0], 2, 2)
        self.fault([1, 128], 2, 1)

    def test_before_what_comes_later(self):
        # More back than there is, but the number behind it is wrong.
        self.fault([1, 5, 9, 128], 2, 3)
        self.fault([1, 5, 9, 128, 0, 255], 2, 3)
        self.fault([1, 5, 9], 2, 3)


class Wanting(Case):
    def test_fewer_than_told(self):
        self.fault([1, 5, 0, 1], 3, 4)
        self.fault([1, 5, 0, 2, 97], 3, 5)
        self.fault([1, 5, 0, 128, 1] + [97] * 127, 3, 132)
        self.fault([1, 5, 0, 4, 97, 2, 1], 3, 7)

    def test_in_a_later_telling(self):
        self.fault([1, 5, 0, 1, 97, 1, 1, 0, 3, 97, 97], 3, 11)

    def test_whatever_those_are_that_are_there(self):
        self.fault([1, 5, 0, 2, 255], 3, 5)
        self.fault([1, 5, 0, 3, 226, 130], 3, 6)
        self.fault([1, 5, 0, 9, 0, 127, 97], 3, 7)

    def test_before_what_comes_later(self):
        self.fault([1, 5, 9, 1], 3, 4)
        for front, _ in FRONTS[1:]:
            self.assertEqual(ask(judge(front + [1, 0, 0, 1])), [[-2, 3, len(front) + 4]])
            self.assertEqual(ask(judge(front + [1] + sevens(END - 1) + [0, 1])), [[-2, 3, len(front) + 9]])


class Characters(Case):
    broken = (
        [0], [9], [13], [31], [127], [128], [191], [192, 128], [193, 191], [194], [194, 65], [223, 192],
        [224, 159, 191], [226], [226, 130], [226, 130, 65], [226, 65, 65], [237, 160, 128], [237, 191, 191],
        [239, 191, 192],
        [240, 143, 191, 191], [240, 159, 152], [240, 159, 152, 65], [244, 144, 128, 128], [245, 128, 128, 128], [255],
    )

    def test_in_the_midst_of_others(self):
        for numbers in self.broken:
            for before in ("", "a", "so we ", "\u00e4", "\u20ac\n", "a\U0001f600"):
                for behind in ("", "a", "\u20ac"):
                    put = coded(before) + numbers + coded(behind)
                    self.fault([1, 5, 0, len(put)] + put, 4, 4 + len(coded(before)))

    def test_the_first_of_several(self):
        self.fault([1, 5, 0, 5, 97, 0, 97, 255, 127], 4, 5)
        self.fault([1, 5, 0, 128, 1] + [97] * 100 + [226, 130] + [97] * 26, 4, 105)

    def test_cut_by_the_end_of_the_bytes_put(self):
        # The byte behind would make a character of it, but it isn't the telling's.
        self.fault([1, 5, 0, 2, 226, 130, 172], 4, 4)
        self.fault([1, 5, 0, 3, 97, 226, 130, 172], 4, 5)

    def test_in_a_later_telling(self):
        self.fault([1, 5, 0, 1, 97, 1, 1, 0, 3, 97, 97, 127], 4, 11)

    def test_before_what_comes_later(self):
        self.fault([1, 5, 9, 1, 255], 4, 4)
        for front, _ in FRONTS[1:]:
            self.assertEqual(ask(judge(front + [1, 0, 0, 2, 97, 255])), [[-2, 4, len(front) + 5]])
            self.assertEqual(ask(judge(front + [1] + sevens(END - 1) + [0, 1, 0])), [[-2, 4, len(front) + 9]])


class Back(Case):
    def test_of_an_empty_screen(self):
        self.well([1, 5, 0, 1, 97], 1)
        self.fault([1, 5, 1, 1, 97], 5, 0)
        self.fault([1, 5, 1, 0], 5, 0)

    def test_just_as_many_and_one_more(self):
        for text in ("a", "so we", "\u00e4\u20ac\U0001f600\n", "\n", " " * 130):
            first = change_bytes(5, 0, text)
            self.well(first + change_bytes(1, len(text), ""), 2)
            self.well(first + change_bytes(1, len(text), "ab") + change_bytes(1, 2, ""), 3)
            self.fault(first + change_bytes(1, len(text) + 1, ""), 5, len(first))
            self.fault(first + change_bytes(1, len(text) + 1, "ab"), 5, len(first))

    def test_what_several_come_to(self):
        first = change_bytes(5, 0, "so we") + change_bytes(1, 2, "I go")
        self.well(first + change_bytes(1, 7, ""), 3)
        self.fault(first + change_bytes(1, 8, ""), 5, len(first))

    def test_behind_a_clearing(self):
        first = change_bytes(5, 0, "so we") + clearing_bytes(1) + change_bytes(1, 0, "on")
        self.well(first + change_bytes(1, 2, ""), 4)
        self.fault(first + change_bytes(1, 3, ""), 5, len(first))

    def test_before_what_comes_later(self):
        for front, _ in FRONTS[1:]:
            self.assertEqual(ask(judge(front + [1, 0, 1, 0])), [[-2, 5, len(front)]])
            self.assertEqual(ask(judge(front + change_bytes(END - 1, 1, "a"))), [[-2, 5, len(front)]])


class Ticks(Case):
    def test_a_first_telling(self):
        self.assertEqual(ask(judge(change_bytes(END - 1, 0, "a"))), [[1]])
        self.assertEqual(ask(judge(change_bytes(END, 0, "a"))), [[-2, 2, 1]])

    def test_they_come_to(self):
        for ticks in (1, 5, 2 ** 39, END - 2):
            first = change_bytes(ticks, 0, "a")
            for telling in ((lambda at: change_bytes(at, 0, "b")), clearing_bytes):
                self.assertEqual(ask(judge(first + telling(END - 1 - ticks))), [[2]])
                self.assertEqual(ask(judge(first + telling(END - ticks))), [[-2, 6, len(first)]])
                self.assertEqual(ask(judge(first + telling(END - 1))), [[-2, 6, len(first)]])

    def test_of_several(self):
        first = change_bytes(END - 4, 0, "a") + clearing_bytes(1) + change_bytes(1, 0, "a")
        self.assertEqual(ask(judge(first + clearing_bytes(1))), [[4]])
        self.assertEqual(ask(judge(first + clearing_bytes(2))), [[-2, 6, len(first)]])
        self.assertEqual(ask(judge(first + clearing_bytes(1) + change_bytes(1, 0, "a"))), [[-2, 6, len(first) + 2]])

    def test_before_what_comes_later(self):
        first = change_bytes(END - 4, 0, "a") + clearing_bytes(1)
        self.assertEqual(ask(judge(first + clearing_bytes(3))), [[-2, 6, len(first)]])
        self.assertEqual(ask(judge(first + change_bytes(3, 0, ""))), [[-2, 6, len(first)]])
        self.assertEqual(ask(judge(first + clearing_bytes(2))), [[-2, 7, len(first)]])
        self.assertEqual(ask(judge(first + change_bytes(2, 0, ""))), [[-2, 7, len(first)]])


class TellsNothing(Case):
    def test_a_change_with_nothing(self):
        self.fault([1, 5, 0, 0], 7, 0)
        self.fault([1, 5, 0, 1, 97, 1, 1, 0, 0], 7, 5)
        self.assertEqual(ask(judge([1, 0, 0, 0])), [[-2, 7, 0]])

    def test_at_the_tick_of_the_one_before(self):
        self.fault([1, 5, 0, 1, 97, 1, 0, 0, 1, 97], 7, 5)
        self.fault([1, 5, 0, 1, 97, 1, 0, 1, 0], 7, 5)
        self.fault([1, 5, 0, 1, 97, 2, 0], 7, 5)
        self.fault([1, 5, 0, 1, 97, 2, 1, 1, 0, 0, 1, 97], 7, 7)
        for front, _ in FRONTS[1:]:
            self.assertEqual(ask(judge(front + [1, 0, 0, 1, 97])), [[-2, 7, len(front)]])

    def test_the_first_two_at_tick_0(self):
        self.assertEqual(ask(judge([1, 0, 0, 1, 97, 1, 0, 0, 1, 97])), [[-2, 7, 5]])
        self.assertEqual(ask(judge([1, 0, 0, 1, 97, 2, 0])), [[-2, 7, 5]])
        self.assertEqual(ask(judge([1, 0, 0, 1, 97, 2, 1])), [[2]])

    def test_a_clearing_of_an_empty_screen(self):
        self.assertEqual(ask(judge([2, 0])), [[-2, 7, 0]])
        self.fault([2, 5], 7, 0)
        self.fault([1, 5, 0, 1, 97, 2, 1, 2, 1], 7, 7)

    def test_of_one_that_changes_have_emptied(self):
        self.fault([1, 5, 0, 1, 97, 1, 1, 1, 0, 2, 1], 7, 9)
        self.fault([1, 5, 0, 2, 97, 10, 1, 1, 1, 0, 1, 1, 1, 0, 2, 1], 7, 14)
        self.well([1, 5, 0, 2, 97, 10, 1, 1, 1, 0, 2, 1], 3)

    def test_of_one_with_spaces_or_line_feeds_alone(self):
        self.well([1, 5, 0, 1, 10, 2, 1], 2)
        self.well([1, 5, 0, 1, 32, 2, 1], 2)

    def test_of_the_first_telling_only(self):
        self.fault([1, 5, 0, 0, 3], 7, 0)


class Apart(unittest.TestCase):
    def test_begun_or_not(self):
        for numbers, told in (([], [0]), ([1, 5, 0, 1, 97], [1]), ([2, 0], [-2, 7, 0])):
            calls = [judge(numbers), begin(), judge(numbers), feed(9, (3, 0, "so ")), judge(numbers)]
            self.assertEqual(ask(*calls)[::2], [told] * 3)

    def test_one_judge_knows_nothing_of_another(self):
        self.assertEqual(ask(judge([1, 5, 0, 1, 97]), judge([2, 1]), judge([1, 0, 0, 1, 97])), [[1], [-2, 7, 0], [1]])


class Wild(unittest.TestCase):
    def test_as_the_words_say(self):
        kinds = {}
        for seed in range(4000):
            draw = random.Random(seed)
            parts = wild_tellings(draw, draw.randint(1, 8))
            numbers = [number for part in parts for number in part]
            self.assertEqual(ask(judge(numbers)), [[len(parts)]], seed)
            numbers = broken_tellings(draw, parts)
            told = plain_judge(numbers)
            self.assertEqual(ask(judge(numbers)), [told], seed)
            kind = told[1] if told[0] == -2 else 0
            kinds[kind] = kinds.get(kind, 0) + 1
        self.assertEqual(sorted(kinds), list(range(8)))
        self.assertGreater(min(kinds.values()), 20)

    def test_every_beginning(self):
        for seed in range(30):
            parts = wild_tellings(random.Random(seed), 6)
            numbers = [number for part in parts for number in part]
            for stop in range(len(numbers)):
                self.assertEqual(ask(judge(numbers[:stop])), [plain_judge(numbers[:stop])], (seed, stop))

    def test_any_bytes(self):
        for seed in range(3000):
            draw = random.Random(seed)
            numbers = [draw.choice([0, 1, 1, 2, 2, 3, 10, 97, 128, 129, 226, 255]) for _ in range(draw.randint(0, 12))]
            self.assertEqual(ask(judge(numbers)), [plain_judge(numbers)], numbers)


class Plain(unittest.TestCase):
    """What the program is held against is itself held against the document's words."""

    def test_faults(self):
        for numbers, told in (
            ([], [0]), ([1, 5, 0, 1, 97], [1]), ([3], [-2, 1, 0]), ([1, 128, 0], [-2, 2, 1]),
            ([1, 5, 0, 2, 97], [-2, 3, 5]), ([1, 5, 0, 2, 97, 127], [-2, 4, 5]), ([1, 5, 1, 0], [-2, 5, 0]),
            ([2, 0], [-2, 7, 0]),
            (change_bytes(END - 1, 0, "a") + [2, 1], [-2, 6, 10]),
        ):
            self.assertEqual(plain_judge(numbers), told)


if __name__ == "__main__":
    unittest.main()
