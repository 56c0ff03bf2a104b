"""Characters: every form of UTF-8 at its edges, against Python's own reading."""

import itertools
import unittest

from hallcaptions.characters import bytes_of, characters_of
from tests.plain import characters

EDGES = (0, 10, 32, 97, 127, 128, 143, 144, 159, 160, 191, 192, 224, 255)
TAILS = (97, 127, 128, 191, 192)


class Forms(unittest.TestCase):
    def check(self, *numbers):
        read = characters_of(list(numbers))
        whole = characters(numbers)
        if whole is None:
            self.assertLess(len(bytes_of(read)), len(numbers), numbers)
        else:
            self.assertEqual([bytes(sign).decode("utf-8") for sign in read], list(whole))

    def test_one_byte(self):
        for first in range(256):
            self.check(first)

    def test_two_bytes(self):
        for first, second in itertools.product(range(256), range(256)):
            self.check(first, second)

    def test_three_bytes(self):
        for first, second, third in itertools.product(range(190, 256), EDGES, EDGES):
            self.check(first, second, third)

    def test_four_bytes(self):
        for first, second, third, fourth in itertools.product(range(236, 256), EDGES, TAILS, TAILS):
            self.check(first, second, third, fourth)

    def test_stops_at_the_first_that_is_none(self):
        self.assertEqual(characters_of([97, 195, 164, 10, 9, 97]), [(97,), (195, 164), (10,)])
        self.assertEqual(characters_of([97, 226, 130]), [(97,)])
        self.assertEqual(characters_of([]), [])


if __name__ == "__main__":
    unittest.main()
