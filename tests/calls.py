"""Writes calls as numbers and reads answers back."""

from hallcaptions.captions import answers

WAITING = [2]
NEXT = [3]
STATE = [5]


def coded(text):
    return list(text.encode("utf-8")) if isinstance(text, str) else list(text)


def begin(width=16, rows=2, hold=0, idle=1000, byline=0, blank=0):
    return [0, width, rows, hold, idle, byline, blank]


def raw_feed(now, edits, text):
    return [1, now, len(edits)] + list(edits) + [len(text)] + list(text)


def feed(now, *edits):
    """Edits are (tick, back, text)."""
    numbers = []
    text = []
    for tick, back, put in edits:
        put = coded(put)
        numbers += [tick, back, len(put)]
        text += put
    return raw_feed(now, numbers, text)


def row(which):
    return [4, which]


def lay(width, text):
    text = coded(text)
    return [6, width, len(text)] + text


def pack(clear, ticks, back, text):
    text = coded(text)
    return [7, clear, ticks, back, len(text)] + text


def judge(numbers):
    return [8, len(numbers)] + list(numbers)


def cues(rows, end, numbers):
    return [9, rows, end, len(numbers)] + list(numbers)


def parted(told):
    """The answers, one list each."""
    parts = []
    place = 0
    while place < len(told):
        size = told[place]
        part = told[place + 1:place + 1 + size]
        assert size >= 1 and len(part) == size, told
        parts.append(part)
        place += 1 + size
    return parts


def ask(*calls):
    return parted(answers([number for call in calls for number in call]))


def change(tick, back, put):
    put = coded(put)
    return [0, 1, tick, back, len(put)] + put


def clearing(tick):
    return [0, 2, tick, 0, 0]


def shown(text):
    text = coded(text)
    return [0, len(text)] + text


def tellings(*calls):
    """What waits behind calls that are all answered 0, up to 60 tellings."""
    told = ask(*calls, *[NEXT] * 60)
    assert all(part == [0] for part in told[:len(calls)]), told
    return [part for part in told[len(calls):] if part != [-3]]


def window(*calls):
    """The rows of the window behind calls."""
    told = ask(*calls, *[row(which) for which in range(8)])[len(calls):]
    return [bytes(part[2:]).decode("utf-8") for part in told if part[0] == 0]


def sevens(number):
    """A number as it stands among the bytes of tellings."""
    numbers = []
    while number > 127:
        numbers.append(128 | number & 127)
        number >>= 7
    return numbers + [number]


def change_bytes(ticks, back, put):
    put = coded(put)
    return [1] + sevens(ticks) + sevens(back) + sevens(len(put)) + put


def clearing_bytes(ticks):
    return [2] + sevens(ticks)


def parted_cues(told):
    """The cues of an answer: from, to, the rows' texts."""
    assert told[0] == 0, told
    found = []
    place = 2
    for _ in range(told[1]):
        begins, ends, count = told[place:place + 3]
        place += 3
        rows = []
        for _ in range(count):
            size = told[place]
            rows.append(bytes(told[place + 1:place + 1 + size]).decode("utf-8"))
            place += 1 + size
        found.append((begins, ends, rows))
    assert place == len(told), told
    return found
