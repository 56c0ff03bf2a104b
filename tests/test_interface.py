"""The interface: names, kinds, the form of the answers, and what is left as it was."""

import unittest

from hallcaptions.captions import answers
from tests.calls import begin, feed
from tests.wild import wild_calls


class Form(unittest.TestCase):
    def test_each_answer_has_its_count_before_it(self):
        calls = [4, 0, 0, 16, 2, 0, 1000, 0, 0, 1, 1, 3, 0, 0, 2, 2, 97, 32, 2, 4, 0, 4, 1, 3, 3]
        self.assertEqual(answers(calls), [
            1, -9,
            1, 0,
            1, 0,
            1, 1,
            3, 0, 1, 97,
            1, -1,
            6, 0, 1, 0, 0, 1, 97,
            1, -3,
        ])

    def test_a_clearing(self):
        calls = begin(blank=1) + feed(2, (0, 0, "a ")) + [3, 3]
        self.assertEqual(answers(calls), [1, 0, 1, 0, 6, 0, 1, 0, 0, 1, 97, 5, 0, 2, 1, 0, 0])

    def test_whole_numbers_alone(self):
        for seed in range(50):
            told = answers([number for call in wild_calls(seed) for number in call])
            self.assertIs(type(told), list)
            self.assertEqual({type(number) for number in told}, {int})

    def test_a_number_that_is_no_call(self):
        with self.assertRaises(ValueError):
            answers([10])


class NothingKept(unittest.TestCase):
    def test_the_list_is_the_same_before_and_after(self):
        for seed in range(50):
            calls = [number for call in wild_calls(seed) for number in call]
            before = list(calls)
            answers(calls)
            self.assertEqual(calls, before)

    def test_two_times_give_the_same(self):
        for seed in range(50):
            calls = [number for call in wild_calls(seed) for number in call]
            first = answers(calls)
            answers(begin() + feed(9, (0, 0, "so we ")))
            self.assertEqual(answers(calls), first)

    def test_what_is_given_back_is_the_callers(self):
        calls = begin() + feed(9, (0, 0, "so we ")) + [3, 4, 0]
        first = answers(calls)
        kept = list(first)
        first.clear()
        self.assertEqual(answers(calls), kept)

    def test_not_begun_each_time(self):
        answers(begin())
        self.assertEqual(answers([2]), [1, -9])


class Long(unittest.TestCase):
    def test_long_texts_are_gone_through_by_loops(self):
        for text in ("a\n" * 2048, "a" * 4096, "a " * 2048, " " * 4096, "\n" * 4096):
            for byline in (0, 1):
                calls = begin(hold=1, idle=600000, byline=byline)
                for tick in range(3):
                    calls = calls + feed(tick, (tick, 0, text))
                told = answers(calls + feed(700000) + [2])
                self.assertEqual(told[:10], [1, 0] * 5)

    def test_a_feed_refused_again_and_again_is_refused_soon(self):
        # Laid and told from the start each time, this would take minutes.
        edits = [(10 * k, 0, "a\n" * 10) for k in range(200)]
        calls = begin(hold=30000, idle=600000, byline=1, blank=1) + feed(2000, *edits)
        calls = calls + feed(4000, *[(2000 + tick, back, put) for tick, back, put in edits])
        calls = calls + feed(6000, *[(4000 + tick, back, put) for tick, back, put in edits])
        told = answers(calls + feed(2 ** 40 - 1) * 90)
        self.assertEqual(told, [1, 0] * 4 + [1, -4] * 90)


if __name__ == "__main__":
    unittest.main()
