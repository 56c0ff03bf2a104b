"""The calls that need no captions: lay, pack, judge, cues. Each answers a list, as those on captions do."""

from hallcaptions.bounds import MOST_BYTES, NUMBERS_END, rows_fit, width_fits
from hallcaptions.characters import are_characters, bytes_of, characters_of
from hallcaptions.counts import counted
from hallcaptions.cues import cues_of
from hallcaptions.lines import laid_text
from hallcaptions.packed import Fault, packed_change, packed_clearing, unpacked


def text_fits(text):
    return len(text) <= MOST_BYTES and are_characters(text)


def lay(width, text):
    if not width_fits(width) or not text_fits(text):
        return [-1]
    return [0] + counted(bytes_of(laid_text(characters_of(text), width)))


def pack(clear, ticks, back, text):
    if clear > 1 or ticks >= NUMBERS_END or back >= NUMBERS_END or not text_fits(text):
        return [-1]
    empty = back == 0 and not text
    # A change that is empty says nothing, and a clearing has no room for more.
    if empty != (clear == 1):
        return [-1]
    telling = packed_clearing(ticks) if clear == 1 else packed_change(ticks, back, text)
    return [0] + counted(telling)


def judge(numbers):
    try:
        tellings = unpacked(numbers)
    except Fault as fault:
        return [-2, fault.kind, fault.place]
    return [len(tellings)]


def cues(rows, end, numbers):
    if not rows_fit(rows) or end >= NUMBERS_END:
        return [-1]
    try:
        tellings = unpacked(numbers)
    except Fault:
        return [-1]
    return told_cues(cues_of(tellings, rows, end))


def told_cues(found):
    told = [0, len(found)]
    for cue in found:
        told.extend([cue.begins, cue.ends, len(cue.rows)])
        for row in cue.rows:
            told.extend(counted(bytes_of(row)))
    return told
