"""Lists of calls drawn from a seed: the same seed gives the same calls."""

import random

from tests.calls import (
    NEXT, STATE, WAITING, begin, change_bytes, clearing_bytes, coded, cues, feed, judge, lay, pack, raw_feed, row,
)

LONG_WORDS = (8, 12, 14, 15, 16, 17, 31, 32, 33, 40)


def wild_text(draw, count):
    parts = []
    for _ in range(count):
        chance = draw.random()
        if chance < 0.22:
            parts.append(" " * draw.choice([1, 1, 1, 1, 2, 3]))
        elif chance < 0.25:
            parts.append("\n" * draw.choice([1, 1, 2]))
        elif chance < 0.30:
            parts.append(draw.choice("\u00e4\u00df\u20ac\u8a9e\U0001f600"))
        elif chance < 0.33:
            parts.append("w" * draw.choice(LONG_WORDS))
        else:
            parts.append(draw.choice("abcdefg"))
    return "".join(parts)


def wild_edits(draw, now, end):
    edits = []
    tick = now
    for _ in range(draw.choice([0, 1, 1, 1, 2, 3, 5])):
        tick = draw.randint(tick, end)
        back = draw.choice([0, 0, 0, 0, 1, 2, 4, 8, 30])
        edits.append((tick, back, wild_text(draw, draw.choice([0, 1, 2, 4, 8, 20]))))
    return edits


def wild_begin(draw):
    hold = draw.choice([0, 0, 1, 3, 7, 20])
    idle = max(1, hold) + draw.choice([0, 1, 5, 30, 60])
    blank = draw.choice([0, 0, 1, 2, 5, 12, 40])
    return begin(draw.choice([16, 16, 17, 20]), draw.randint(1, 8), hold, idle, draw.randint(0, 1), blank)


def later(draw, now):
    return now + draw.choice([0, 0, 1, 2, 3, 5, 10, 10, 25, 90])


def broken_feed(draw, now):
    """A feed that's most likely wrong in some way; now is left as it was if it is."""
    end = later(draw, now)
    numbers = [draw.choice([now, end, end + 1, max(0, now - 1)]), draw.randint(0, 3), draw.randint(0, 4)]
    text = [draw.choice([97, 32, 10, 195, 164, 226, 130, 172, 127, 9, 255]) for _ in range(draw.randint(0, 4))]
    return raw_feed(end, numbers[:draw.choice([3, 3, 3, 2])], text)


def wild_calls(seed):
    """At most 100 calls, begun, that end with all that waits, the window and the state."""
    draw = random.Random(seed)
    calls = [wild_begin(draw)]
    now = 0
    for _ in range(draw.randint(3, 25)):
        chance = draw.random()
        if chance < 0.7:
            end = later(draw, now)
            calls.append(feed(end, *wild_edits(draw, now, end)))
            now = end
        elif chance < 0.8:
            calls.append(WAITING)
        elif chance < 0.9:
            calls.append(NEXT)
        elif chance < 0.95:
            calls.append(row(draw.randint(0, 8)))
        elif chance < 0.96:
            calls.append(wild_begin(draw))
        else:
            calls.append(broken_feed(draw, now))
        if draw.random() < 0.4:
            calls.append(STATE)
    return calls + [NEXT] * (91 - len(calls)) + [STATE] + [row(which) for which in range(8)]


def wild_tellings(draw, count):
    """The bytes of each telling of a list that is judged well."""
    parts = []
    length = 0
    for place in range(count):
        ticks = draw.choice([0 if place == 0 else 1, 1, 2, 5, 127, 128, 300, 16383, 16384, 2 ** 30])
        if length > 0 and draw.random() < 0.2:
            parts.append(clearing_bytes(ticks))
            length = 0
            continue
        back = draw.choice([0, 0, 1, 2, length // 2, length])
        put = wild_text(draw, draw.choice([0, 1, 2, 5, 40]))
        back = min(back, length)
        if back == 0 and put == "":
            put = draw.choice(["a", "\n", "\u20ac"])
        parts.append(change_bytes(ticks, back, put))
        length += len(put) - back
    return parts


def broken_tellings(draw, parts):
    """Bytes that most likely have a fault, of tellings that have none."""
    parts = [list(part) for part in parts]
    chance = draw.random()
    at = draw.randrange(len(parts))
    if chance < 0.1:
        parts.insert(at, draw.choice([clearing_bytes(0), clearing_bytes(1), change_bytes(3, 0, "")]))
    elif chance < 0.2:
        parts.insert(at, change_bytes(1, draw.choice([1, 30, 999, 2 ** 39]), "b"))
    elif chance < 0.3:
        parts.insert(at, change_bytes(draw.choice([0, 2 ** 40 - 1, 2 ** 40]), 0, "b"))
    elif chance < 0.4:
        del parts[at]
    numbers = [number for part in parts for number in part]
    if chance < 0.4 or numbers == []:
        return numbers
    at = draw.randrange(len(numbers))
    if chance < 0.6:
        return numbers[:at]
    if chance < 0.8:
        numbers[at] = draw.choice([0, 1, 2, 3, 10, 31, 32, 97, 127, 128, 194, 226, 237, 255])
    else:
        numbers.insert(at, draw.choice([0, 1, 2, 97, 128, 255]))
    return numbers


def wild_bytes(draw):
    parts = wild_tellings(draw, draw.choice([0, 1, 2, 3, 8]))
    if parts and draw.random() < 0.4:
        return broken_tellings(draw, parts)
    return [number for part in parts for number in part]


def wild_alone(draw):
    """One of the calls that need no captions."""
    which = draw.randint(6, 9)
    if which == 6:
        text = coded(wild_text(draw, draw.choice([0, 5, 30, 60])))
        if draw.random() < 0.2:
            text.insert(draw.randint(0, len(text)), draw.choice([0, 9, 13, 127, 128, 195, 255]))
        return lay(draw.choice([15, 16, 16, 17, 20, 96, 97]), text)
    if which == 7:
        number = draw.choice([0, 0, 1, 127, 128, 16384, 2 ** 40 - 1, 2 ** 40])
        text = draw.choice([[], [], [97], [226, 130, 172], [10], [13], [226, 130]])
        return pack(draw.choice([0, 0, 0, 1, 1, 2]), draw.randint(0, 2 ** draw.randint(1, 41)), number, text)
    if which == 8:
        return judge(wild_bytes(draw))
    end = draw.choice([0, 1, 5, 300, 2 ** 31, 2 ** 40 - 1, 2 ** 40])
    return cues(draw.choice([0, 1, 1, 2, 3, 8, 9]), end, wild_bytes(draw))


def wild_mixed(seed):
    """All ten calls in any order, at most 100 of them; what's on captions may come before a begin."""
    draw = random.Random(seed)
    calls = [call for call in wild_calls(seed) if call != NEXT or draw.random() < 0.3]
    if draw.random() < 0.3:
        calls.insert(draw.randint(1, 10), calls.pop(0))
    for _ in range(min(30, 100 - len(calls))):
        broken = begin(width=draw.choice([0, 15, 97]))
        calls.insert(draw.randint(0, len(calls)), broken if draw.random() < 0.05 else wild_alone(draw))
    return calls
