"""The interface: names, kinds, the form of the answers, and what is left as it was."""

import time
import unittest

from hallcaptions.captions import answers
from tests.calls import (
    NEXT, STATE, WAITING, ask, begin, change_bytes, cues, feed, judge, lay, pack, parted_cues, row,
)
from tests.plain import plain_cues, plain_lines
from tests.wild import wild_mixed


def flat(calls):
    return [number for call in calls for number in call]


class Form(unittest.TestCase):
    def test_each_answer_has_its_count_before_it(self):
        calls = [4, 0, 0, 16, 2, 0, 1000, 0, 0, 1, 1, 3, 0, 0, 2, 2, 97, 32, 2, 4, 0, 4, 1, 3, 3]
        self.assertEqual(answers(calls), [
            1, -9,
            1, 0,
            1, 0,
            1, 1,
            3, 0, 1, 97,
            1, -1,
            6, 0, 1, 0, 0, 1, 97,
            1, -3,
        ])

    def test_a_clearing(self):
        calls = begin(blank=1) + feed(2, (0, 0, "a ")) + [3, 3]
        self.assertEqual(answers(calls), [1, 0, 1, 0, 6, 0, 1, 0, 0, 1, 97, 5, 0, 2, 1, 0, 0])

    def test_the_calls_of_the_second_half(self):
        calls = [5] + begin(blank=5) + feed(30, (3, 0, "so we "), (28, 0, "go "))
        calls += [5, 6, 16, 3, 32, 97, 32, 7, 0, 5, 0, 1, 97, 7, 1, 128, 0, 0, 8, 5, 1, 5, 0, 1, 97, 8, 2, 2, 0, 8, 0]
        calls += [9, 1, 9, 5, 1, 5, 0, 1, 97, 9, 2, 9, 0, 9, 2, 9, 2, 2, 0, 6, 15, 0, 7, 0, 1, 0, 0]
        self.assertEqual(answers(calls), [
            1, -9,
            1, 0,
            1, 0,
            6, 0, 9, 9, 6, 28, 30,
            3, 0, 1, 97,
            7, 0, 5, 1, 5, 0, 1, 97,
            5, 0, 3, 2, 128, 1,
            1, 1,
            3, -2, 7, 0,
            1, 0,
            7, 0, 1, 5, 9, 1, 1, 97,
            2, 0, 0,
            1, -1,
            1, -1,
            1, -1,
        ])

    def test_whole_numbers_alone(self):
        for seed in range(50):
            told = answers(flat(wild_mixed(seed)))
            self.assertIs(type(told), list)
            self.assertEqual({type(number) for number in told}, {int})

    def test_a_number_that_is_no_call(self):
        with self.assertRaises(ValueError):
            answers([10])


class NothingKept(unittest.TestCase):
    def test_the_list_is_the_same_before_and_after(self):
        for seed in range(50):
            calls = flat(wild_mixed(seed))
            before = list(calls)
            answers(calls)
            self.assertEqual(calls, before)

    def test_not_for_a_while_either(self):
        class Watched(list):
            """A list that fails when it is changed."""

            def changed(self, *rest):
                raise AssertionError("changed")

            append = extend = insert = pop = remove = clear = sort = reverse = changed
            __setitem__ = __delitem__ = __iadd__ = __imul__ = changed

        for seed in range(50):
            calls = flat(wild_mixed(seed))
            self.assertEqual(answers(Watched(calls)), answers(calls))

    def test_two_times_give_the_same(self):
        for seed in range(50):
            calls = flat(wild_mixed(seed))
            first = answers(calls)
            answers(begin() + feed(9, (0, 0, "so we ")) + judge([1, 5, 0, 1, 97]))
            self.assertEqual(answers(calls), first)

    def test_what_is_given_back_is_the_callers(self):
        calls = begin() + feed(9, (0, 0, "so we ")) + [3, 4, 0] + lay(16, "a") + cues(1, 9, [1, 5, 0, 1, 97])
        first = answers(calls)
        kept = list(first)
        first.clear()
        self.assertEqual(answers(calls), kept)

    def test_not_begun_each_time(self):
        answers(begin())
        self.assertEqual(answers([2]), [1, -9])
        self.assertEqual(answers([5]), [1, -9])


class Long(unittest.TestCase):
    def test_long_texts_are_gone_through_by_loops(self):
        for text in ("a\n" * 2048, "a" * 4096, "a " * 2048, " " * 4096, "\n" * 4096):
            for byline in (0, 1):
                calls = begin(hold=1, idle=600000, byline=byline)
                for tick in range(3):
                    calls = calls + feed(tick, (tick, 0, text))
                told = answers(calls + feed(700000) + [2])
                self.assertEqual(told[:10], [1, 0] * 5)

    def test_a_feed_refused_again_and_again_is_refused_soon(self):
        # Laid and told from the start each time, this would take minutes.
        edits = [(10 * k, 0, "a\n" * 10) for k in range(200)]
        calls = begin(hold=30000, idle=600000, byline=1, blank=1) + feed(2000, *edits)
        calls = calls + feed(4000, *[(2000 + tick, back, put) for tick, back, put in edits])
        calls = calls + feed(6000, *[(4000 + tick, back, put) for tick, back, put in edits])
        told = answers(calls + feed(2 ** 40 - 1) * 90)
        self.assertEqual(told, [1, 0] * 4 + [1, -4] * 90)


class Longest(unittest.TestCase):
    """The longest lists that may be handed in: answered as the document says, and soon."""

    def setUp(self):
        self.began = time.monotonic()

    def tearDown(self):
        # Each takes far less than a second; a machine may be slow, but not so slow.
        self.assertLess(time.monotonic() - self.began, 20)

    def told(self, *calls):
        self.assertLessEqual(len(calls), 100)
        self.assertLessEqual(len(flat(calls)), 19400)
        return ask(*calls)

    def test_judge(self):
        for size in (8000, 19000):
            count = size // 5
            self.assertEqual(self.told(judge([1, 1, 0, 1, 97] * count)), [[count]])
            self.assertEqual(self.told(judge([1, 1, 0, 1, 97] * (count - 1) + [1, 1, 0, 1, 127])), [[-2, 4, size - 1]])
            self.assertEqual(self.told(judge([1, 1, 0, 1, 97] * (count - 1) + [1, 1, 0, 2, 97])), [[-2, 3, size]])
            self.assertEqual(self.told(judge([1, 1, 0, 1, 97] * (count - 1) + [1, 0, 0, 1, 97])), [[-2, 7, size - 5]])

    def test_judge_one_long_telling(self):
        telling = change_bytes(1, 0, "\u20ac" * 2600)
        self.assertEqual(self.told(judge(telling)), [[1]])
        self.assertEqual(self.told(judge(telling + change_bytes(1, 2600, ""))), [[2]])
        self.assertEqual(self.told(judge(telling + change_bytes(1, 2601, ""))), [[-2, 5, len(telling)]])
        self.assertEqual(self.told(judge(telling[:-1])), [[-2, 3, len(telling) - 1]])

    def test_judge_a_number_that_does_not_end(self):
        for number in (128, 255):
            self.assertEqual(self.told(judge([1] + [number] * 7999)), [[-2, 2, 1]])
            self.assertEqual(self.told(judge([1] + [number] * 18999)), [[-2, 2, 1]])
            self.assertEqual(self.told(judge([1] + [number] * 18998 + [1])), [[-2, 2, 1]])

    def test_a_hundred_judges(self):
        self.assertEqual(self.told(*[judge([1, 1, 0, 1, 97] * 38)] * 100), [[38]] * 100)
        self.assertEqual(self.told(*[judge([1, 1, 0, 1, 97] * 38 + [1])] * 100), [[-2, 2, 191]] * 100)

    def test_cues_of_many_tellings(self):
        for put in (10, 97):
            numbers = [1, 1, 0, 1, put] * 1600
            for rows in (1, 8):
                self.assertEqual(self.told(cues(rows, 900, numbers)), [plain_cues(rows, 900, numbers)])
        numbers = ([1, 1, 0, 1, 97] + [2, 1]) * 1142
        told = self.told(cues(8, 2 ** 40 - 1, numbers))[0]
        self.assertEqual(parted_cues(told), [(k, k + 1, ["a"]) for k in range(1, 2284, 2)])

    def test_cues_of_a_long_text_with_a_short_window(self):
        numbers = change_bytes(0, 0, "a" * 3500 + "\n") + [1, 1, 0, 1, 10, 1, 1, 1, 0] * 490
        told = self.told(cues(1, 2 ** 40 - 1, numbers))[0]
        self.assertEqual(told, plain_cues(1, 2 ** 40 - 1, numbers))
        self.assertEqual(told[1], 981)

    def test_cues_with_a_long_row(self):
        numbers = change_bytes(0, 0, "a" * 2000) + [1, 1, 0, 1, 97, 1, 1, 1, 0] * 220
        told = self.told(cues(1, 2 ** 40 - 1, numbers))[0]
        self.assertEqual(told, plain_cues(1, 2 ** 40 - 1, numbers))

    def test_lay_and_pack(self):
        texts = ("a " * 2048, "\n" * 4096, "a" * 4096, " " * 4096)
        told = self.told(*[lay(16, text) for text in texts])
        for text, part in zip(texts, told):
            self.assertEqual(bytes(part[2:]).decode("utf-8"), "\n".join(plain_lines(text, 16)))
        told = self.told(*[pack(0, 1, 0, text) for text in texts])
        for text, part in zip(texts, told):
            self.assertEqual(part, [0, 4101, 1, 1, 0, 128, 32] + list(text.encode("utf-8")))
        self.assertEqual(self.told(lay(16, "a" * 19000)), [[-1]])
        self.assertEqual(self.told(pack(0, 1, 0, "a" * 19000)), [[-1]])

    def test_all_ten(self):
        edits = [(10 * k, 0, "so we go on \n") for k in range(250)]
        calls = [begin(hold=5, blank=7, rows=8), feed(2500, *edits[:100]), STATE, WAITING, NEXT, row(0)]
        numbers = [1, 1, 0, 1, 97, 2, 1] * 1000
        calls += [lay(16, "a " * 2048), pack(0, 1, 0, "a" * 4096), judge(numbers[:700]), cues(8, 99, numbers[:700])]
        calls += [STATE] * 90
        told = self.told(*calls)
        self.assertEqual(told[2], [0, 1300, 1300, 1300, 1002, 2500])
        self.assertEqual(told[10:], [told[2]] * 90)
        self.assertEqual(told[8], [200])
        self.assertEqual(told[9][:2], [0, 49])


if __name__ == "__main__":
    unittest.main()
