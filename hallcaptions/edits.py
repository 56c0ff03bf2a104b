"""Edits: what a feed hands in, and whether it may."""

from hallcaptions.bounds import MOST_BYTES, NUMBERS_END
from hallcaptions.characters import bytes_of, characters_of

MOST_NUMBERS = 768


class Edit:
    def __init__(self, tick, back, put):
        self.tick = tick
        self.back = back
        self.put = put


def sizes_fit(numbers, text):
    if len(numbers) > MOST_NUMBERS or len(text) > MOST_BYTES or len(numbers) % 3 != 0:
        return False
    return sum(numbers[2::3]) == len(text)


# An edit's bytes are read by themselves, so that no character reaches into the next edit's.
def edits_of(numbers, text):
    edits = []
    place = 0
    for k in range(0, len(numbers), 3):
        stop = place + numbers[k + 2]
        edits.append(Edit(numbers[k], numbers[k + 1], characters_of(text[place:stop])))
        place = stop
    return edits


# Reading stops at what isn't a character, so bytes are missing then.
def puts_all(edits, text):
    return sum([len(bytes_of(edit.put)) for edit in edits]) == len(text)


def in_order(edits, before, now):
    if now < before or now >= NUMBERS_END:
        return False
    latest = before
    for edit in edits:
        if edit.tick < latest or edit.tick > now:
            return False
        latest = edit.tick
    return True


# Each edit counts, not only the last: a later one may take back what was too much.
def greatest_length(length, edits):
    greatest = 0
    for edit in edits:
        length = max(0, length - edit.back) + len(edit.put)
        greatest = max(greatest, length)
    return greatest
