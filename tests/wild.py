"""Lists of calls drawn from a seed: the same seed gives the same calls."""

import random

from tests.calls import NEXT, WAITING, begin, feed, raw_feed, row

LONG_WORDS = (8, 12, 14, 15, 16, 17, 31, 32, 33, 40)


def wild_text(draw, count):
    parts = []
    for _ in range(count):
        chance = draw.random()
        if chance < 0.22:
            parts.append(" " * draw.choice([1, 1, 1, 1, 2, 3]))
        elif chance < 0.25:
            parts.append("\n" * draw.choice([1, 1, 2]))
        elif chance < 0.30:
            parts.append(draw.choice("\u00e4\u00df\u20ac\u8a9e\U0001f600"))
        elif chance < 0.33:
            parts.append("w" * draw.choice(LONG_WORDS))
        else:
            parts.append(draw.choice("abcdefg"))
    return "".join(parts)


def wild_edits(draw, now, end):
    edits = []
    tick = now
    for _ in range(draw.choice([0, 1, 1, 1, 2, 3, 5])):
        tick = draw.randint(tick, end)
        back = draw.choice([0, 0, 0, 0, 1, 2, 4, 8, 30])
        edits.append((tick, back, wild_text(draw, draw.choice([0, 1, 2, 4, 8, 20]))))
    return edits


def wild_begin(draw):
    hold = draw.choice([0, 0, 1, 3, 7, 20])
    idle = max(1, hold) + draw.choice([0, 1, 5, 30, 60])
    blank = draw.choice([0, 0, 1, 2, 5, 12, 40])
    return begin(draw.choice([16, 16, 17, 20]), draw.randint(1, 8), hold, idle, draw.randint(0, 1), blank)


def later(draw, now):
    return now + draw.choice([0, 0, 1, 2, 3, 5, 10, 10, 25, 90])


def broken_feed(draw, now):
    """A feed that's most likely wrong in some way; now is left as it was if it is."""
    end = later(draw, now)
    numbers = [draw.choice([now, end, end + 1, max(0, now - 1)]), draw.randint(0, 3), draw.randint(0, 4)]
    text = [draw.choice([97, 32, 10, 195, 164, 226, 130, 172, 127, 9, 255]) for _ in range(draw.randint(0, 4))]
    return raw_feed(end, numbers[:draw.choice([3, 3, 3, 2])], text)


def wild_calls(seed):
    """At most 100 calls, begun, that end with all that waits and with the window."""
    draw = random.Random(seed)
    calls = [wild_begin(draw)]
    now = 0
    for _ in range(draw.randint(3, 25)):
        chance = draw.random()
        if chance < 0.7:
            end = later(draw, now)
            calls.append(feed(end, *wild_edits(draw, now, end)))
            now = end
        elif chance < 0.8:
            calls.append(WAITING)
        elif chance < 0.9:
            calls.append(NEXT)
        elif chance < 0.95:
            calls.append(row(draw.randint(0, 8)))
        elif chance < 0.96:
            calls.append(wild_begin(draw))
        else:
            calls.append(broken_feed(draw, now))
    return calls + [NEXT] * (92 - len(calls)) + [row(which) for which in range(8)]
