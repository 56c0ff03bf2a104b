"""The promises, each on calls drawn from seeds, and the program against the plain way."""

import random
import unittest

from tests.calls import NEXT, ask, begin, feed, row, tellings, window
from tests.plain import lay, plain_answers
from tests.wild import wild_calls, wild_edits, wild_text


def screens(told):
    """What the tellings come to: each one's tick and the screen's text from then on."""
    text = ""
    texts = []
    for answer in told:
        if answer[1] == 2:
            text = ""
        else:
            assert answer[3] <= len(text)
            text = text[:len(text) - answer[3]] + bytes(answer[5:]).decode("utf-8")
        texts.append((answer[2], text))
    return texts


class AsTheWordsSay(unittest.TestCase):
    def test_wild_calls(self):
        for seed in range(1500):
            calls = wild_calls(seed)
            self.assertEqual(ask(*calls), plain_answers(calls), seed)


class Promise1(unittest.TestCase):
    """However edits are cut into feeds, the same is told."""

    def cut(self, draw, edits, end):
        """The same edits in other feeds, some of them at the tick of an edit still to come."""
        feeds = []
        part = []
        for place, edit in enumerate(edits):
            part.append(edit)
            if draw.random() < 0.5:
                last = edits[place + 1][0] if place + 1 < len(edits) else end
                feeds.append(feed(draw.randint(edit[0], last), *part))
                part = []
        return feeds + [feed(end, *part)]

    def test_cut_in_many_ways(self):
        for seed in range(200):
            draw = random.Random(seed)
            rules = wild_calls(seed)[0]
            edits = wild_edits(draw, 0, 60) + wild_edits(draw, 60, 99)
            whole = tellings(rules, feed(150, *edits))
            shown = window(rules, feed(150, *edits))
            for _ in range(5):
                feeds = self.cut(draw, edits, 150)
                self.assertEqual(tellings(rules, *feeds), whole, seed)
                self.assertEqual(window(rules, *feeds), shown, seed)

    def test_one_tick_at_a_time(self):
        edits = [(3, 0, "so "), (3, 1, "on "), (9, 2, "me of it "), (9, 0, "went"), (14, 0, " on ")]
        for rules in (begin(hold=4, idle=7, blank=3), begin(hold=0, idle=6, byline=1, blank=2)):
            feeds = []
            for tick in range(31):
                feeds.append(feed(tick, *[edit for edit in edits if edit[0] == tick]))
            self.assertEqual(tellings(rules, *feeds), tellings(rules, feed(30, *edits)))


class Promise2(unittest.TestCase):
    """Tellings applied one after another are the screen's text."""

    def test_the_window_is_what_the_tellings_come_to(self):
        for seed in range(300):
            draw = random.Random(seed)
            rules = wild_calls(seed)[0]
            edits = wild_edits(draw, 0, 60) + wild_edits(draw, 60, 99)
            for end in (99, 101, 120):
                told = screens(tellings(rules, feed(end, *edits)))
                text = told[-1][1] if told else ""
                self.assertEqual(window(rules, feed(end, *edits)), text.split("\n")[-rules[2]:], seed)

    def test_every_telling_says_something(self):
        for seed in range(300):
            told = [part for part in ask(*wild_calls(seed)) if part[0] == 0 and len(part) >= 5 and part[1] in (1, 2)]
            for part in told:
                self.assertTrue(part[1] == 2 or part[3] > 0 or part[4] > 0)


class Promise3(unittest.TestCase):
    """No character is on the screen that wasn't put hold ticks before."""

    def test_characters_that_tell_their_tick(self):
        for seed in range(300):
            draw = random.Random(seed)
            hold = draw.randint(0, 30)
            rules = begin(hold=hold, idle=max(1, hold + draw.randint(0, 20)), byline=seed % 2, blank=seed % 7)
            edits = []
            tick = 0
            for _ in range(20):
                tick += draw.randint(0, 9)
                put = "".join(draw.choice([chr(0x4E00 + tick), " "]) for _ in range(draw.randint(0, 6)))
                edits.append((tick, draw.choice([0, 0, 0, 1, 3]), put))
            for at, text in screens(tellings(rules, feed(tick + 60, *edits))):
                put_at = [ord(sign) - 0x4E00 for sign in text if sign not in " \n"]
                self.assertTrue(all(at - put >= hold for put in put_at), seed)


class Promise4(unittest.TestCase):
    """Where no edit goes back into what's released and none is released in a word's midst, none is taken back."""

    def test_edits_that_take_back_only_what_is_held(self):
        for seed in range(300):
            draw = random.Random(seed)
            rules = begin(hold=10, idle=600000, byline=seed % 2, blank=seed % 5)
            edits = []
            tick = 0
            for _ in range(20):
                tick += draw.randint(0, 30)
                put = wild_text(draw, 9)
                # What an edit less than hold ticks before has put can't be released.
                edits.append((tick, 0, put))
                edits.append((tick + draw.randint(0, 9), draw.randint(0, len(put)), wild_text(draw, 4)))
                tick = edits[-1][0]
            told = tellings(rules, feed(tick + 50, *edits))
            self.assertTrue(all(part[3] == 0 for part in told), seed)
            self.assertTrue(told, seed)


class Promise5(unittest.TestCase):
    """Idle ticks behind the last edit everything is released."""

    def test_all_of_it_on_the_screen(self):
        for seed in range(300):
            draw = random.Random(seed)
            idle = draw.randint(5, 40)
            rules = begin(rows=8, hold=draw.randint(0, 5), idle=idle, byline=seed % 2)
            edits = wild_edits(draw, 0, 60) + wild_edits(draw, 60, 99) + [(99, 0, "last")]
            written = ""
            for _, back, put in edits:
                written = written[:max(0, len(written) - back)] + put
            early = screens(tellings(rules, feed(99 + idle, *edits)))
            late = screens(tellings(rules, feed(100 + idle, *edits)))
            self.assertEqual(late[-1], (99 + idle, "\n".join(lay(written, 16))), seed)
            self.assertEqual(late[:-1], early, seed)


class Promise6(unittest.TestCase):
    """No line is longer than width, none is begun too soon, joined they are the words in order."""

    def test_lines(self):
        for seed in range(300):
            draw = random.Random(seed)
            width = draw.randint(16, 24)
            text = wild_text(draw, 120)
            told = tellings(begin(width=width, hold=5, idle=5), feed(6, (0, 0, text)))
            lines = bytes(told[0][5:]).decode("utf-8").split("\n")
            self.assertTrue(all(len(line) <= width for line in lines), seed)
            self.assertTrue(all(line == " ".join(line.split(" ")) == line.strip(" ") for line in lines))
            self.assertEqual("".join(lines).replace(" ", ""), text.replace(" ", "").replace("\n", ""))
            self.assertEqual(self.parts(lines, text, width), len(text.split("\n")), seed)

    def parts(self, lines, text, width):
        """Takes the lines apart into the text's parts; how many there are."""
        place = 0
        parts = text.split("\n")
        for part in parts:
            pieces = []
            for word in part.split():
                pieces += [word[k:k + width] for k in range(0, len(word), width)]
            taken = []
            while len(taken) < len(pieces):
                words = lines[place].split(" ")
                if taken:
                    self.assertGreater(len(lines[place - 1]) + 1 + len(words[0]), width)
                taken += words
                place += 1
            self.assertEqual(taken, pieces)
            if not pieces:
                self.assertEqual(lines[place], "")
                place += 1
        self.assertEqual(place, len(lines))
        return len(parts)


class Promise9(unittest.TestCase):
    """Refusals change nothing."""

    def test_calls_without_those_that_were_refused(self):
        refused = 0
        for seed in range(600):
            calls = wild_calls(seed)
            told = ask(*calls)
            kept = [call for call, part in zip(calls, told) if part[0] >= 0]
            refused += len(calls) - len(kept)
            self.assertEqual(ask(*kept), [part for part in told if part[0] >= 0], seed)
        self.assertGreater(refused, 1000)

    def test_broken_calls_put_between(self):
        broken = [
            begin(width=15),
            begin(blank=600001),
            [1, 2 ** 40, 0, 0],
            [1, 2 ** 40 - 1, 1, 3, 0],
            [1, 2 ** 40 - 1, 3, 2 ** 40 - 1, 0, 1, 1, 200],
            row(8),
        ]
        for seed in range(100):
            draw = random.Random(seed)
            calls = [call for call in wild_calls(seed) if call != NEXT][:40]
            mixed = []
            for call in calls[1:]:
                mixed += [draw.choice(broken), call]
            self.assertEqual(ask(calls[0], *mixed)[2::2], ask(*calls)[1:], seed)
            self.assertTrue(all(part == [-1] for part in ask(calls[0], *mixed)[1::2]))


if __name__ == "__main__":
    unittest.main()
