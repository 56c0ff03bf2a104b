"""The promises, each on calls drawn from seeds, and the program against the plain way."""

import random
import unittest

from tests.calls import (
    NEXT, STATE, ask, begin, cues, feed, judge, lay, pack, parted_cues, row, tellings, window,
)
from tests.plain import plain_answers, plain_lines, plain_screens
from tests.wild import wild_calls, wild_edits, wild_mixed, wild_text


def screens(told):
    """What the tellings come to: each one's tick and the screen's text from then on."""
    text = ""
    texts = []
    for answer in told:
        if answer[1] == 2:
            text = ""
        else:
            assert answer[3] <= len(text)
            text = text[:len(text) - answer[3]] + bytes(answer[5:]).decode("utf-8")
        texts.append((answer[2], text))
    return texts


def packed(told):
    """The bytes of what captions told, packed one behind another."""
    numbers = []
    last = 0
    for answer in told:
        part = ask(pack(answer[1] - 1, answer[2] - last, answer[3], answer[5:]))[0]
        assert part[0] == 0, answer
        numbers += part[2:]
        last = answer[2]
    return numbers


class AsTheWordsSay(unittest.TestCase):
    def test_wild_calls(self):
        for seed in range(1500):
            calls = wild_calls(seed)
            self.assertEqual(ask(*calls), plain_answers(calls), seed)

    def test_all_ten_calls(self):
        for seed in range(600):
            calls = wild_mixed(seed)
            self.assertEqual(ask(*calls), plain_answers(calls), seed)


class Promise1(unittest.TestCase):
    """However edits are cut into feeds, the same is told."""

    def cut(self, draw, edits, end):
        """The same edits in other feeds, some of them at the tick of an edit still to come."""
        feeds = []
        part = []
        for place, edit in enumerate(edits):
            part.append(edit)
            if draw.random() < 0.5:
                last = edits[place + 1][0] if place + 1 < len(edits) else end
                feeds.append(feed(draw.randint(edit[0], last), *part))
                part = []
        return feeds + [feed(end, *part)]

    def test_cut_in_many_ways(self):
        for seed in range(200):
            draw = random.Random(seed)
            rules = wild_calls(seed)[0]
            edits = wild_edits(draw, 0, 60) + wild_edits(draw, 60, 99)
            whole = tellings(rules, feed(150, *edits))
            shown = window(rules, feed(150, *edits))
            state = ask(rules, feed(150, *edits), STATE)[-1]
            for _ in range(5):
                feeds = self.cut(draw, edits, 150)
                self.assertEqual(tellings(rules, *feeds), whole, seed)
                self.assertEqual(window(rules, *feeds), shown, seed)
                self.assertEqual(ask(rules, *feeds, STATE)[-1], state, seed)

    def test_one_tick_at_a_time(self):
        edits = [(3, 0, "so "), (3, 1, "on "), (9, 2, "me of it "), (9, 0, "went"), (14, 0, " on ")]
        for rules in (begin(hold=4, idle=7, blank=3), begin(hold=0, idle=6, byline=1, blank=2)):
            feeds = []
            for tick in range(31):
                feeds.append(feed(tick, *[edit for edit in edits if edit[0] == tick]))
            self.assertEqual(tellings(rules, *feeds), tellings(rules, feed(30, *edits)))


class Promise2(unittest.TestCase):
    """Tellings applied one after another are the screen's text."""

    def test_the_window_is_what_the_tellings_come_to(self):
        for seed in range(300):
            draw = random.Random(seed)
            rules = wild_calls(seed)[0]
            edits = wild_edits(draw, 0, 60) + wild_edits(draw, 60, 99)
            for end in (99, 101, 120):
                told = screens(tellings(rules, feed(end, *edits)))
                text = told[-1][1] if told else ""
                self.assertEqual(window(rules, feed(end, *edits)), text.split("\n")[-rules[2]:], seed)

    def test_every_telling_says_something(self):
        for seed in range(300):
            calls = wild_calls(seed)
            for call, part in zip(calls, ask(*calls)):
                if call == NEXT and part[0] == 0:
                    self.assertTrue(part[1] == 2 or part[3] > 0 or part[4] > 0)

    def test_state_tells_the_last_one(self):
        for seed in range(300):
            draw = random.Random(seed)
            rules = wild_calls(seed)[0]
            edits = wild_edits(draw, 0, 60) + wild_edits(draw, 60, 99)
            told = tellings(rules, feed(120, *edits))
            for count in (0, len(told) // 2, len(told)):
                state = ask(rules, feed(120, *edits), *[NEXT] * count, STATE)[-1]
                self.assertEqual(state[4], told[-1][2] if told else 0, seed)
                self.assertTrue(0 <= state[3] <= state[2] <= state[1], seed)
                self.assertEqual(state[5], 120)


class Promise3(unittest.TestCase):
    """No character is on the screen that wasn't put hold ticks before."""

    def test_characters_that_tell_their_tick(self):
        for seed in range(300):
            draw = random.Random(seed)
            hold = draw.randint(0, 30)
            rules = begin(hold=hold, idle=max(1, hold + draw.randint(0, 20)), byline=seed % 2, blank=seed % 7)
            edits = []
            tick = 0
            for _ in range(20):
                tick += draw.randint(0, 9)
                put = "".join(draw.choice([chr(0x4E00 + tick), " "]) for _ in range(draw.randint(0, 6)))
                edits.append((tick, draw.choice([0, 0, 0, 1, 3]), put))
            for at, text in screens(tellings(rules, feed(tick + 60, *edits))):
                put_at = [ord(sign) - 0x4E00 for sign in text if sign not in " \n"]
                self.assertTrue(all(at - put >= hold for put in put_at), seed)


class Promise4(unittest.TestCase):
    """Where no edit goes back into what's released and none is released in a word's midst, none is taken back."""

    def test_edits_that_take_back_only_what_is_held(self):
        for seed in range(300):
            draw = random.Random(seed)
            rules = begin(hold=10, idle=600000, byline=seed % 2, blank=seed % 5)
            edits = []
            tick = 0
            for _ in range(20):
                tick += draw.randint(0, 30)
                put = wild_text(draw, 9)
                # What an edit less than hold ticks before has put can't be released.
                edits.append((tick, 0, put))
                edits.append((tick + draw.randint(0, 9), draw.randint(0, len(put)), wild_text(draw, 4)))
                tick = edits[-1][0]
            told = tellings(rules, feed(tick + 50, *edits))
            self.assertTrue(all(part[3] == 0 for part in told), seed)
            self.assertTrue(told, seed)


class Promise5(unittest.TestCase):
    """Idle ticks behind the last edit everything is released."""

    def test_all_of_it_on_the_screen(self):
        for seed in range(300):
            draw = random.Random(seed)
            idle = draw.randint(5, 40)
            rules = begin(rows=8, hold=draw.randint(0, 5), idle=idle, byline=seed % 2)
            edits = wild_edits(draw, 0, 60) + wild_edits(draw, 60, 99) + [(99, 0, "last")]
            written = ""
            for _, back, put in edits:
                written = written[:max(0, len(written) - back)] + put
            early = screens(tellings(rules, feed(99 + idle, *edits)))
            late = screens(tellings(rules, feed(100 + idle, *edits)))
            self.assertEqual(late[-1], (99 + idle, "\n".join(plain_lines(written, 16))), seed)
            self.assertEqual(late[:-1], early, seed)
            state = ask(rules, feed(100 + idle, *edits), STATE)[-1]
            self.assertEqual(state, [0, len(written), len(written), 0, 99 + idle, 100 + idle], seed)


class Promise6(unittest.TestCase):
    """No line is longer than width, none is begun too soon, joined they are the words in order."""

    def test_lines(self):
        for seed in range(300):
            draw = random.Random(seed)
            width = draw.randint(16, 24)
            text = wild_text(draw, 120)
            told = tellings(begin(width=width, hold=5, idle=5), feed(6, (0, 0, text)))
            lines = bytes(told[0][5:]).decode("utf-8").split("\n")
            self.assertEqual(ask(lay(width, text))[0][1:], told[0][4:], seed)
            self.assertTrue(all(len(line) <= width for line in lines), seed)
            self.assertTrue(all(line == " ".join(line.split(" ")) == line.strip(" ") for line in lines))
            self.assertEqual("".join(lines).replace(" ", ""), text.replace(" ", "").replace("\n", ""))
            self.assertEqual(self.parts(lines, text, width), len(text.split("\n")), seed)

    def parts(self, lines, text, width):
        """Takes the lines apart into the text's parts; how many there are."""
        place = 0
        parts = text.split("\n")
        for part in parts:
            pieces = []
            for word in part.split():
                pieces += [word[k:k + width] for k in range(0, len(word), width)]
            taken = []
            while len(taken) < len(pieces):
                words = lines[place].split(" ")
                if taken:
                    self.assertGreater(len(lines[place - 1]) + 1 + len(words[0]), width)
                taken += words
                place += 1
            self.assertEqual(taken, pieces)
            if not pieces:
                self.assertEqual(lines[place], "")
                place += 1
        self.assertEqual(place, len(lines))
        return len(parts)


class Promise7(unittest.TestCase):
    """Bytes of tellings are judged well and read as they were."""

    def test_what_captions_told(self):
        for seed in range(300):
            draw = random.Random(seed)
            rules = wild_calls(seed)[0]
            told = tellings(rules, feed(120, *wild_edits(draw, 0, 60), *wild_edits(draw, 60, 99)))
            self.assertEqual(ask(judge(packed(told))), [[len(told)]], seed)
            self.assertEqual(plain_screens(packed(told)), screens(told), seed)

    def test_what_pack_gives(self):
        for seed in range(300):
            draw = random.Random(seed)
            length = 0
            told = []
            tick = draw.choice([0, 1, 127, 128])
            for _ in range(draw.randint(1, 20)):
                put = wild_text(draw, draw.choice([1, 5, 50])) if draw.random() < 0.8 else ""
                back = draw.randint(0, length)
                if length > 0 and draw.random() < 0.2:
                    told.append([0, 2, tick, 0, 0])
                    length = 0
                elif back or put:
                    told.append([0, 1, tick, back, len(put.encode("utf-8"))] + list(put.encode("utf-8")))
                    length += len(put) - back
                tick += draw.choice([1, 127, 128, 16383, 16384, 2 ** 35])
            numbers = packed(told)
            self.assertEqual(ask(judge(numbers)), [[len(told)]], seed)
            self.check_read(told, numbers)

    def check_read(self, told, numbers):
        """Each telling's tick and screen, as the cues of all rows show them where there are no more than eight."""
        found = parted_cues(ask(cues(8, 2 ** 40 - 1, numbers))[0])
        shown = [(at, text.split("\n")[-8:]) for at, text in screens(told) if text != ""]
        self.assertEqual([(begins, rows) for begins, _, rows in found], shown)

    def test_cut_anywhere_they_are_not_judged_well(self):
        told = tellings(begin(blank=3), feed(30, (3, 0, "so we "), (9, 4, "\u20ac "), (12, 0, "on ")))
        numbers = packed(told)
        begins = {len(packed(told[:count])): count for count in range(len(told) + 1)}
        for stop in range(len(numbers) + 1):
            part = ask(judge(numbers[:stop]))[0]
            self.assertEqual(part, [begins[stop]] if stop in begins else [-2, part[1], part[2]])


class Promise8(unittest.TestCase):
    """Cues are in order, do not overlap, and show at each tick what stood on the screen."""

    def test_in_order(self):
        for seed in range(300):
            draw = random.Random(seed)
            rules = wild_calls(seed)[0]
            told = tellings(rules, feed(120, *wild_edits(draw, 0, 60), *wild_edits(draw, 60, 99)))
            for end in (0, 30, 70, 120, 500):
                last = 0
                for begins, ends, rows in parted_cues(ask(cues(draw.randint(1, 8), end, packed(told)))[0]):
                    self.assertTrue(last <= begins < ends <= end, seed)
                    last = ends

    def test_at_each_tick_what_row_told(self):
        for seed in range(60):
            draw = random.Random(seed)
            rules = wild_calls(seed)[0]
            edits = wild_edits(draw, 0, 30) + wild_edits(draw, 30, 49)
            end = draw.choice([40, 60])
            told = tellings(rules, feed(60, *edits))
            stood = {}
            for begins, ends, rows in parted_cues(ask(cues(rules[2], end, packed(told)))[0]):
                stood.update({tick: rows for tick in range(begins, ends)})
            for tick in range(end):
                calls = [rules, feed(tick + 1, *[edit for edit in edits if edit[0] <= tick])]
                self.assertEqual(stood.get(tick, [""]), window(*calls), (seed, tick))
            self.assertTrue(all(tick < end for tick in stood))


class Promise9(unittest.TestCase):
    """Refusals change nothing."""

    def test_all_ten_calls(self):
        seen = {}
        for seed in range(600):
            calls = wild_mixed(seed)
            told = ask(*calls)
            kept = [call for call, part in zip(calls, told) if part[0] >= 0]
            for call, part in zip(calls, told):
                seen[call[0], part[0] < 0] = True
            if kept:
                self.assertEqual(ask(*kept), [part for part in told if part[0] >= 0], seed)
        # Each call was answered and refused.
        self.assertEqual(set(seen), {(call, refused) for call in range(10) for refused in (False, True)})

    def test_calls_without_those_that_were_refused(self):
        refused = 0
        for seed in range(600):
            calls = wild_calls(seed)
            told = ask(*calls)
            kept = [call for call, part in zip(calls, told) if part[0] >= 0]
            refused += len(calls) - len(kept)
            self.assertEqual(ask(*kept), [part for part in told if part[0] >= 0], seed)
        self.assertGreater(refused, 1000)

    def test_broken_calls_put_between(self):
        broken = [
            begin(width=15),
            begin(blank=600001),
            [1, 2 ** 40, 0, 0],
            [1, 2 ** 40 - 1, 1, 3, 0],
            [1, 2 ** 40 - 1, 3, 2 ** 40 - 1, 0, 1, 1, 200],
            row(8),
            lay(15, "a"),
            lay(16, [200]),
            pack(2, 0, 0, ""),
            pack(0, 0, 0, ""),
            pack(1, 0, 0, "a"),
            cues(0, 9, []),
            cues(1, 9, [2, 0]),
        ]
        for seed in range(100):
            draw = random.Random(seed)
            calls = [call for call in wild_calls(seed) if call != NEXT][:40]
            mixed = []
            for call in calls[1:]:
                mixed += [draw.choice(broken), call]
            self.assertEqual(ask(calls[0], *mixed)[2::2], ask(*calls)[1:], seed)
            self.assertTrue(all(part == [-1] for part in ask(calls[0], *mixed)[1::2]))


if __name__ == "__main__":
    unittest.main()
