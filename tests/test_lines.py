"""Lines: how the screen's text is laid, as tellings and the window show it."""

import unittest

from tests.calls import begin, feed, tellings, window
from tests.plain import plain_lines


def laid(text, width=16):
    """The screen's text once all of the text is released."""
    told = tellings(begin(width=width, hold=9, idle=9), feed(10, (0, 0, text)))
    if not told:
        return ""
    assert len(told) == 1 and told[0][:4] == [0, 1, 9, 0], told
    return bytes(told[0][5:]).decode("utf-8")


class Words(unittest.TestCase):
    def test_just_fits_and_just_does_not(self):
        self.assertEqual(laid("so I went on and"), "so I went on and")
        self.assertEqual(laid("so I went on at o"), "so I went on at\no")
        self.assertEqual(laid("so I went on a o"), "so I went on a o")
        self.assertEqual(laid("so I went on any"), "so I went on any")
        self.assertEqual(laid("so I went on many"), "so I went on\nmany")

    def test_as_long_as_width(self):
        self.assertEqual(laid("a" * 16), "a" * 16)
        self.assertEqual(laid("so " + "a" * 16 + " on"), "so\n" + "a" * 16 + "\non")
        self.assertEqual(laid("a" * 96, 96), "a" * 96)

    def test_longer_than_width(self):
        self.assertEqual(laid("a" * 17), "a" * 16 + "\na")
        self.assertEqual(laid("a" * 32), "a" * 16 + "\n" + "a" * 16)
        self.assertEqual(laid("so " + "a" * 35 + " on"), "so\n" + "a" * 16 + "\n" + "a" * 16 + "\naaa on")
        self.assertEqual(laid("so " + "a" * 18 + " " + "b" * 13), "so\n" + "a" * 16 + "\naa " + "b" * 13)
        self.assertEqual(laid("so " + "a" * 18 + " " + "b" * 14), "so\n" + "a" * 16 + "\naa\n" + "b" * 14)
        self.assertEqual(laid("a" * 97, 96), "a" * 96 + "\na")

    def test_spaces(self):
        self.assertEqual(laid("so   we    go"), "so we go")
        self.assertEqual(laid("   so we"), "so we")
        self.assertEqual(laid("so we   "), "so we")
        self.assertEqual(laid("   "), "")
        self.assertEqual(laid("so I went on and    "), "so I went on and")
        self.assertEqual(laid("so I went on and    so"), "so I went on and\nso")
        self.assertEqual(laid(" \n so \n "), "\nso\n")

    def test_line_feeds(self):
        self.assertEqual(laid("so\nwe"), "so\nwe")
        self.assertEqual(laid("so\n\n\nwe"), "so\n\n\nwe")
        self.assertEqual(laid("so\n"), "so\n")
        self.assertEqual(laid("\n"), "\n")
        self.assertEqual(laid("\n\n"), "\n\n")
        self.assertEqual(laid("\nso"), "\nso")
        self.assertEqual(laid("so I went on and\nso"), "so I went on and\nso")
        self.assertEqual(laid("a" * 16 + "\n" + "b" * 17), "a" * 16 + "\n" + "b" * 16 + "\nb")

    def test_characters_of_several_bytes_count_as_one(self):
        for sign in ("\u00e4", "\u20ac", "\U0001f600"):
            self.assertEqual(laid(sign * 16), sign * 16)
            self.assertEqual(laid(sign * 17), sign * 16 + "\n" + sign)
            self.assertEqual(laid(sign * 7 + " " + sign * 8), sign * 7 + " " + sign * 8)
            self.assertEqual(laid(sign * 7 + " " + sign * 9), sign * 7 + "\n" + sign * 9)

    def test_only_the_space_parts_words(self):
        self.assertEqual(laid("so\u00a0we\u3000go\u0085on"), "so\u00a0we\u3000go\u0085on")

    def test_widths(self):
        text = "so I went on and so forth and then some of it again and more of that and all of the rest"
        for width in (16, 17, 40, 95, 96):
            self.assertEqual(laid(text, width), "\n".join(plain_lines(text, width)))


class PlainLay(unittest.TestCase):
    """What the program is held against is itself held against the document's words."""

    def test_empty(self):
        self.assertEqual(plain_lines("", 16), [""])

    def test_words(self):
        self.assertEqual(plain_lines(" so  I went on and so ", 16), ["so I went on and", "so"])
        self.assertEqual(plain_lines("\na\n", 16), ["", "a", ""])
        self.assertEqual(plain_lines("b " + "a" * 33, 16), ["b", "a" * 16, "a" * 16, "a"])


class Window(unittest.TestCase):
    text = "a\nb\nc\nd\ne\nf\ng\nh\ni\nj "

    def test_rows(self):
        for rows in range(1, 9):
            calls = [begin(rows=rows), feed(1, (0, 0, self.text))]
            self.assertEqual(window(*calls), list("abcdefghij")[-rows:])

    def test_fewer_lines_than_rows(self):
        calls = [begin(rows=8), feed(1, (0, 0, "so I went on and so forth "))]
        self.assertEqual(window(*calls), ["so I went on and", "so forth"])

    def test_an_empty_last_line(self):
        self.assertEqual(window(begin(rows=2), feed(1, (0, 0, "so\nwe\n"))), ["we", ""])


if __name__ == "__main__":
    unittest.main()
