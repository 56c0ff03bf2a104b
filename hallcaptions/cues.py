"""Cues: from when to when tellings let which rows stand on the screen."""

from hallcaptions.characters import LINE_FEED
from hallcaptions.tellings import CLEARING


class Cue:
    def __init__(self, begins, ends, rows):
        self.begins = begins
        self.ends = ends
        self.rows = rows


def text_behind(text, telling):
    if telling.kind == CLEARING:
        return []
    return text[:len(text) - telling.back] + telling.put


def row_begin(text, place):
    while place > 0 and text[place - 1] != LINE_FEED:
        place -= 1
    return place


# From the end on, as the text before the last rows may be long and is gone through for each cue.
def last_rows(text, count):
    rows = []
    stop = len(text)
    while stop >= 0 and len(rows) < count:
        begins = row_begin(text, stop)
        rows.append(text[begins:stop])
        stop = begins - 1
    return list(reversed(rows))


# An end for each telling: the next one's tick, or the end of all.
def ends_of(tellings, end):
    return [min(telling.tick, end) for telling in tellings[1:]] + [end]


def cues_of(tellings, rows, end):
    cues = []
    text = []
    for telling, ends in zip(tellings, ends_of(tellings, end)):
        text = text_behind(text, telling)
        if text and ends > telling.tick:
            cues.append(Cue(telling.tick, ends, last_rows(text, rows)))
    return cues
