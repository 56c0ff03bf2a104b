"""The document's words done the plain way: tick after tick, everything laid from the start.

Slow, and written apart from the program, to hold the program's answers against.
"""


def lay(text, width):
    lines = []
    for part in text.split("\n"):
        pieces = []
        for word in part.split(" "):
            pieces += [word[k:k + width] for k in range(0, len(word), width)]
        line = None
        for piece in pieces:
            if line is None:
                line = piece
            elif len(line) + 1 + len(piece) <= width:
                line += " " + piece
            else:
                lines.append(line)
                line = piece
        lines.append(line or "")
    return lines


def characters(numbers):
    """The text of the bytes, or None."""
    try:
        text = bytes(numbers).decode("utf-8")
    except UnicodeDecodeError:
        return None
    for sign in text:
        if sign != "\n" and (ord(sign) < 32 or ord(sign) == 127):
            return None
    return text


class PlainCaptions:
    def __init__(self):
        self.rules = None

    def begin(self, width, rows, hold, idle, byline, blank):
        if width not in range(16, 97) or rows not in range(1, 9) or hold > 30000:
            return [-1]
        if idle < hold or idle == 0 or idle > 600000 or byline > 1 or blank > 600000:
            return [-1]
        self.rules = (width, rows, hold, idle, byline, blank)
        self.text = ""
        self.ticks = []
        self.released = self.gone = self.now = 0
        self.edited = None
        self.screen = ""
        self.told = None
        self.queue = []
        return [0]

    def feed(self, now, numbers, text):
        if self.rules is None:
            return [-9]
        edits = self.read(now, numbers, text)
        if edits is None:
            return [-1]
        length = len(self.text)
        for tick, back, put in edits:
            length = max(0, length - back) + len(put)
            if length > 16384:
                return [-2]
        kept = dict(self.__dict__)
        self.ticks = list(self.ticks)
        self.queue = list(self.queue)
        self.go_on(now, edits)
        if len(self.queue) > 256 or sum(len(telling[3]) for telling in self.queue) > 16384:
            self.__dict__.clear()
            self.__dict__.update(kept)
            return [-4]
        return [0]

    def read(self, now, numbers, text):
        if len(numbers) > 768 or len(text) > 4096 or len(numbers) % 3:
            return None
        if now < self.now or now >= 2 ** 40:
            return None
        edits = []
        latest = self.now
        place = 0
        for k in range(0, len(numbers), 3):
            tick, back, size = numbers[k:k + 3]
            put = characters(text[place:place + size])
            place += size
            if put is None or tick < latest or tick > now or place > len(text):
                return None
            latest = tick
            edits.append((tick, back, put))
        return edits if place == len(text) else None

    def go_on(self, now, edits):
        for tick in range(self.now, now + 1):
            for edit in edits:
                if edit[0] == tick:
                    self.edit(*edit)
            if tick < now:
                self.go_through(tick)
        self.now = now

    def edit(self, tick, back, put):
        place = max(0, len(self.text) - back)
        self.text = self.text[:place] + put
        self.ticks = self.ticks[:place] + [tick] * len(put)
        self.released = min(self.released, place)
        self.gone = min(self.gone, place)
        self.edited = tick

    def is_end(self, place):
        width, byline = self.rules[0], self.rules[4]
        if place == 0 or self.text[place - 1] == "\n":
            return True
        if self.text[place - 1] != " ":
            return False
        if byline == 0:
            return True
        if place < self.gone:
            return False
        some = lay(self.text[self.gone:place], width)
        every = lay(self.text[self.gone:], width)
        return len(every) > len(some) and every[:len(some)] == some

    def release(self, tick):
        hold, idle = self.rules[2:4]
        if tick - (self.edited or 0) >= idle:
            self.released = len(self.text)
            return
        place = len([at for at in self.ticks if at <= tick - hold])
        while not self.is_end(place):
            place -= 1
        self.released = max(self.released, place)

    def go_through(self, tick):
        width, blank = self.rules[0], self.rules[5]
        self.release(tick)
        screen = "\n".join(lay(self.text[self.gone:self.released], width))
        if screen != self.screen:
            same = 0
            while screen[same:same + 1] == self.screen[same:same + 1] != "":
                same += 1
            self.queue.append((1, tick, len(self.screen) - same, screen[same:]))
            self.screen = screen
            self.told = tick
        elif blank and screen and tick - self.told >= blank:
            self.queue.append((2, tick, 0, ""))
            self.screen = ""
            self.gone = self.released
            self.told = tick

    def waiting(self):
        return [-9] if self.rules is None else [len(self.queue)]

    def next_one(self):
        if self.rules is None:
            return [-9]
        if not self.queue:
            return [-3]
        kind, tick, back, put = self.queue[0]
        self.queue = self.queue[1:]
        put = list(put.encode("utf-8"))
        return [0, kind, tick, back, len(put)] + put

    def row(self, which):
        if self.rules is None:
            return [-9]
        rows = self.screen.split("\n")[-self.rules[1]:]
        if which >= len(rows):
            return [-1]
        put = list(rows[which].encode("utf-8"))
        return [0, len(put)] + put


def plain_answers(calls):
    """What the program is to answer, one list for each call."""
    captions = PlainCaptions()
    return [plain_answer(captions, call) for call in calls]


def plain_answer(captions, call):
    if call[0] == 0:
        return captions.begin(*call[1:])
    if call[0] == 1:
        size = call[2]
        return captions.feed(call[1], call[3:3 + size], call[4 + size:])
    if call[0] == 2:
        return captions.waiting()
    if call[0] == 3:
        return captions.next_one()
    return captions.row(call[1])
