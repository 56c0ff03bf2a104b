"""lay: a text in lines, whether captions are begun or not."""

import random
import unittest

from tests.calls import ask, begin, coded, lay, shown
from tests.plain import plain_lines
from tests.wild import wild_text


def laid(text, width=16):
    told = ask(lay(width, text))
    assert told[0][0] == 0 and len(told[0]) == 2 + told[0][1], told
    return bytes(told[0][2:]).decode("utf-8")


class Bounds(unittest.TestCase):
    def test_width(self):
        for width in (0, 15, 97, 2 ** 40, 2 ** 53 - 1):
            self.assertEqual(ask(lay(width, "so")), [[-1]], width)
        for width in (16, 96):
            self.assertEqual(ask(lay(width, "so")), [shown("so")], width)
            self.assertEqual(laid("a" * 97, width), "\n".join(plain_lines("a" * 97, width)))

    def test_bytes(self):
        self.assertEqual(laid("a" * 4096, 96), "\n".join(["a" * 96] * 42 + ["a" * 64]))
        self.assertEqual(ask(lay(96, "a" * 4097)), [[-1]])
        self.assertEqual(ask(lay(96, " " * 4096)), [shown("")])
        self.assertEqual(ask(lay(96, " " * 4097)), [[-1]])
        self.assertEqual(ask(lay(16, "\n" * 4096)), [shown("\n" * 4096)])
        # Bytes are counted here, not characters.
        self.assertEqual(laid("\u20ac" * 1365, 96).replace("\n", ""), "\u20ac" * 1365)
        self.assertEqual(ask(lay(96, "\u20ac" * 1366)), [[-1]])

    def test_not_characters(self):
        broken = (
            [0], [9], [13], [31], [127], [128], [191], [192, 128], [193, 191], [194], [194, 32], [194, 192],
            [224, 159, 191], [226, 130], [226, 130, 32], [237, 160, 128], [237, 191, 191], [240, 143, 191, 191],
            [240, 159, 152], [244, 144, 128, 128], [245, 128, 128, 128], [254], [255],
        )
        for numbers in broken:
            for around in ([], [97], coded("\u20ac ")):
                self.assertEqual(ask(lay(16, around + numbers)), [[-1]], numbers)
                self.assertEqual(ask(lay(16, around + numbers + around)), [[-1]], numbers)

    def test_the_least_and_the_greatest_characters(self):
        for sign in "\n !~\u0080\u07ff\u0800\ud7ff\ue000\ufffd\uffff\U00010000\U0010ffff":
            self.assertEqual(laid("a" + sign + "b"), "a" + sign + "b")


class Words(unittest.TestCase):
    def test_an_empty_text(self):
        self.assertEqual(ask(lay(16, "")), [[0, 0]])

    def test_just_fits_and_just_does_not(self):
        self.assertEqual(laid("so I went on and"), "so I went on and")
        self.assertEqual(laid("so I went on and "), "so I went on and")
        self.assertEqual(laid("so I went on many"), "so I went on\nmany")
        self.assertEqual(laid("so I went on and so forth"), "so I went on and\nso forth")
        self.assertEqual(laid("a" * 7 + " " + "b" * 8), "a" * 7 + " " + "b" * 8)
        self.assertEqual(laid("a" * 8 + " " + "b" * 8), "a" * 8 + "\n" + "b" * 8)
        self.assertEqual(laid("a" * 47 + " " + "b" * 48, 96), "a" * 47 + " " + "b" * 48)
        self.assertEqual(laid("a" * 48 + " " + "b" * 48, 96), "a" * 48 + "\n" + "b" * 48)

    def test_a_later_word_does_not_go_up(self):
        self.assertEqual(laid("aaa " + "b" * 14 + " c"), "aaa\n" + "b" * 14 + " c")

    def test_as_long_as_width_and_longer(self):
        self.assertEqual(laid("a" * 16), "a" * 16)
        self.assertEqual(laid("a" * 17), "a" * 16 + "\na")
        self.assertEqual(laid("a" * 31), "a" * 16 + "\n" + "a" * 15)
        self.assertEqual(laid("a" * 32), "a" * 16 + "\n" + "a" * 16)
        self.assertEqual(laid("a" * 33), "a" * 16 + "\n" + "a" * 16 + "\na")
        self.assertEqual(laid("b " + "a" * 16 + " c"), "b\n" + "a" * 16 + "\nc")
        self.assertEqual(laid("b " + "a" * 17 + " c"), "b\n" + "a" * 16 + "\na c")
        self.assertEqual(laid("b " + "a" * 40 + " c"), "b\n" + "a" * 16 + "\n" + "a" * 16 + "\n" + "a" * 8 + " c")

    def test_the_rest_of_a_cut_word_and_the_next(self):
        self.assertEqual(laid("a" * 20 + " " + "b" * 11), "a" * 16 + "\naaaa " + "b" * 11)
        self.assertEqual(laid("a" * 20 + " " + "b" * 12), "a" * 16 + "\naaaa\n" + "b" * 12)
        self.assertEqual(laid("a" * 20 + " " + "b" * 20), "a" * 16 + "\naaaa\n" + "b" * 16 + "\nbbbb")

    def test_spaces(self):
        self.assertEqual(laid("so   we    go"), "so we go")
        self.assertEqual(laid("   so we"), "so we")
        self.assertEqual(laid("so we   "), "so we")
        self.assertEqual(laid(" "), "")
        self.assertEqual(laid("    "), "")
        self.assertEqual(laid(" " * 20 + "so" + " " * 20 + "we" + " " * 20), "so we")
        self.assertEqual(laid("a" * 16 + "   " + "b" * 16), "a" * 16 + "\n" + "b" * 16)

    def test_line_feeds(self):
        self.assertEqual(laid("so\nwe"), "so\nwe")
        self.assertEqual(laid("so\n\n\nwe"), "so\n\n\nwe")
        self.assertEqual(laid("\nso"), "\nso")
        self.assertEqual(laid("\n\nso"), "\n\nso")
        self.assertEqual(laid("so\n"), "so\n")
        self.assertEqual(laid("so\n\n"), "so\n\n")
        self.assertEqual(laid("\n"), "\n")
        self.assertEqual(laid(" \n so \n "), "\nso\n")
        self.assertEqual(laid("a" * 16 + "\nb"), "a" * 16 + "\nb")
        self.assertEqual(laid("a" * 17 + "\nb"), "a" * 16 + "\na\nb")

    def test_characters_of_several_bytes_count_as_one(self):
        for sign in ("\u00e4", "\u20ac", "\U0001f600"):
            self.assertEqual(laid(sign * 16), sign * 16)
            self.assertEqual(laid(sign * 17), sign * 16 + "\n" + sign)
            self.assertEqual(laid(sign * 7 + " " + sign * 8), sign * 7 + " " + sign * 8)
            self.assertEqual(laid(sign * 8 + " " + sign * 8), sign * 8 + "\n" + sign * 8)

    def test_the_bytes_are_told_and_how_many(self):
        self.assertEqual(ask(lay(16, "  \u20ac  a ")), [[0, 5, 226, 130, 172, 32, 97]])


class Wild(unittest.TestCase):
    def test_as_the_words_say(self):
        for seed in range(1000):
            draw = random.Random(seed)
            width = draw.choice([16, 17, 24, 96])
            text = wild_text(draw, draw.choice([3, 20, 200]))
            self.assertEqual(laid(text, width), "\n".join(plain_lines(text, width)), seed)

    def test_laid_again_it_stays_the_same(self):
        for seed in range(200):
            text = laid(wild_text(random.Random(seed), 100))
            self.assertEqual(laid(text), text)

    def test_begun_or_not(self):
        text = "so I went on and so forth"
        told = ask(lay(16, text), begin(width=20), lay(16, text))
        self.assertEqual(told[::2], [shown("so I went on and\nso forth")] * 2)


if __name__ == "__main__":
    unittest.main()
