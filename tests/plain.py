"""The document's words done the plain way: tick after tick, everything laid from the start.

Slow, and written apart from the program, to hold the program's answers against.
"""


def plain_lines(text, width):
    lines = []
    for part in text.split("\n"):
        pieces = []
        for word in part.split(" "):
            pieces += [word[k:k + width] for k in range(0, len(word), width)]
        line = None
        for piece in pieces:
            if line is None:
                line = piece
            elif len(line) + 1 + len(piece) <= width:
                line += " " + piece
            else:
                lines.append(line)
                line = piece
        lines.append(line or "")
    return lines


def characters(numbers):
    """The text of the bytes, or None."""
    try:
        text = bytes(numbers).decode("utf-8")
    except UnicodeDecodeError:
        return None
    for sign in text:
        if sign != "\n" and (ord(sign) < 32 or ord(sign) == 127):
            return None
    return text


class PlainCaptions:
    def __init__(self):
        self.rules = None

    def begin(self, width, rows, hold, idle, byline, blank):
        if width not in range(16, 97) or rows not in range(1, 9) or hold > 30000:
            return [-1]
        if idle < hold or idle == 0 or idle > 600000 or byline > 1 or blank > 600000:
            return [-1]
        self.rules = (width, rows, hold, idle, byline, blank)
        self.text = ""
        self.ticks = []
        self.released = self.gone = self.now = 0
        self.edited = None
        self.screen = ""
        self.told = None
        self.queue = []
        return [0]

    def feed(self, now, numbers, text):
        if self.rules is None:
            return [-9]
        edits = self.read(now, numbers, text)
        if edits is None:
            return [-1]
        length = len(self.text)
        for tick, back, put in edits:
            length = max(0, length - back) + len(put)
            if length > 16384:
                return [-2]
        kept = dict(self.__dict__)
        self.ticks = list(self.ticks)
        self.queue = list(self.queue)
        self.go_on(now, edits)
        if len(self.queue) > 256 or sum(len(telling[3]) for telling in self.queue) > 16384:
            self.__dict__.clear()
            self.__dict__.update(kept)
            return [-4]
        return [0]

    def read(self, now, numbers, text):
        if len(numbers) > 768 or len(text) > 4096 or len(numbers) % 3:
            return None
        if now < self.now or now >= 2 ** 40:
            return None
        edits = []
        latest = self.now
        place = 0
        for k in range(0, len(numbers), 3):
            tick, back, size = numbers[k:k + 3]
            put = characters(text[place:place + size])
            place += size
            if put is None or tick < latest or tick > now or place > len(text):
                return None
            latest = tick
            edits.append((tick, back, put))
        return edits if place == len(text) else None

    def go_on(self, now, edits):
        for tick in range(self.now, now + 1):
            for edit in edits:
                if edit[0] == tick:
                    self.edit(*edit)
            if tick < now:
                self.go_through(tick)
        self.now = now

    def edit(self, tick, back, put):
        place = max(0, len(self.text) - back)
        self.text = self.text[:place] + put
        self.ticks = self.ticks[:place] + [tick] * len(put)
        self.released = min(self.released, place)
        self.gone = min(self.gone, place)
        self.edited = tick

    def is_end(self, place):
        width, byline = self.rules[0], self.rules[4]
        if place == 0 or self.text[place - 1] == "\n":
            return True
        if self.text[place - 1] != " ":
            return False
        if byline == 0:
            return True
        if place < self.gone:
            return False
        some = plain_lines(self.text[self.gone:place], width)
        every = plain_lines(self.text[self.gone:], width)
        return len(every) > len(some) and every[:len(some)] == some

    def release(self, tick):
        hold, idle = self.rules[2:4]
        if tick - (self.edited or 0) >= idle:
            self.released = len(self.text)
            return
        place = len([at for at in self.ticks if at <= tick - hold])
        while not self.is_end(place):
            place -= 1
        self.released = max(self.released, place)

    def go_through(self, tick):
        width, blank = self.rules[0], self.rules[5]
        self.release(tick)
        screen = "\n".join(plain_lines(self.text[self.gone:self.released], width))
        if screen != self.screen:
            same = 0
            while screen[same:same + 1] == self.screen[same:same + 1] != "":
                same += 1
            self.queue.append((1, tick, len(self.screen) - same, screen[same:]))
            self.screen = screen
            self.told = tick
        elif blank and screen and tick - self.told >= blank:
            self.queue.append((2, tick, 0, ""))
            self.screen = ""
            self.gone = self.released
            self.told = tick

    def waiting(self):
        return [-9] if self.rules is None else [len(self.queue)]

    def next_one(self):
        if self.rules is None:
            return [-9]
        if not self.queue:
            return [-3]
        kind, tick, back, put = self.queue[0]
        self.queue = self.queue[1:]
        put = list(put.encode("utf-8"))
        return [0, kind, tick, back, len(put)] + put

    def row(self, which):
        if self.rules is None:
            return [-9]
        rows = self.screen.split("\n")[-self.rules[1]:]
        if which >= len(rows):
            return [-1]
        put = list(rows[which].encode("utf-8"))
        return [0, len(put)] + put

    def state(self):
        if self.rules is None:
            return [-9]
        return [0, len(self.text), self.released, self.gone, self.told or 0, self.now]


def plain_lay(width, text):
    text = characters(text) if len(text) <= 4096 else None
    if text is None or width not in range(16, 97):
        return [-1]
    put = list("\n".join(plain_lines(text, width)).encode("utf-8"))
    return [0, len(put)] + put


def plain_number(number):
    """In sevens of bits, cut from its digits in base two."""
    digits = bin(number)[2:]
    digits = "0" * (-len(digits) % 7) + digits
    parts = [int(digits[k:k + 7], 2) for k in range(0, len(digits), 7)][::-1]
    return [part + 128 for part in parts[:-1]] + parts[-1:]


def plain_pack(clear, ticks, back, text):
    if clear not in (0, 1) or max(ticks, back) >= 2 ** 40 or len(text) > 4096 or characters(text) is None:
        return [-1]
    if clear == 0 and (back, text) == (0, []) or clear == 1 and (back, text) != (0, []):
        return [-1]
    put = [2] + plain_number(ticks)
    if clear == 0:
        put = [1] + plain_number(ticks) + plain_number(back) + plain_number(len(text)) + text
    return [0, len(put)] + put


def plain_place(numbers):
    """The place of the first that isn't a character, or None."""
    try:
        text = bytes(numbers).decode("utf-8")
        stop = None
    except UnicodeDecodeError as error:
        text = bytes(numbers[:error.start]).decode("utf-8")
        stop = error.start
    for place, sign in enumerate(text):
        if sign != "\n" and (ord(sign) < 32 or ord(sign) == 127):
            return len(text[:place].encode("utf-8"))
    return stop


class PlainFault(Exception):
    pass


def plain_read(numbers):
    """The telling at the beginning: kind, ticks, back, put, how many bytes. Faults 1 to 4 are raised."""
    if numbers[0] not in (1, 2):
        raise PlainFault(1, 0)
    place = 1
    values = []
    for _ in range(3 if numbers[0] == 1 else 1):
        size = 1
        while numbers[place + size - 1:] and numbers[place + size - 1] > 127:
            size += 1
        part = numbers[place:place + size]
        value = sum((number & 127) << 7 * k for k, number in enumerate(part))
        if len(part) < size or size > 1 and part[-1] == 0 or value >= 2 ** 40:
            raise PlainFault(2, place)
        place += size
        values.append(value)
    if numbers[0] == 2:
        return 2, values[0], 0, "", place
    if place + values[2] > len(numbers):
        raise PlainFault(3, len(numbers))
    part = numbers[place:place + values[2]]
    if plain_place(part) is not None:
        raise PlainFault(4, place + plain_place(part))
    return 1, values[0], values[1], characters(part), place + values[2]


def plain_screens(numbers):
    """Of each telling its tick and the screen's text from then on. A fault is raised."""
    screens = []
    text = ""
    tick = 0
    begins = 0
    while begins < len(numbers):
        try:
            kind, ticks, back, put, size = plain_read(numbers[begins:])
        except PlainFault as fault:
            raise PlainFault(fault.args[0], begins + fault.args[1])
        tick += ticks
        if back > len(text):
            raise PlainFault(5, begins)
        if tick >= 2 ** 40:
            raise PlainFault(6, begins)
        if screens and ticks == 0 or kind == 1 and back == 0 and put == "" or kind == 2 and text == "":
            raise PlainFault(7, begins)
        text = text[:len(text) - back] + put if kind == 1 else ""
        screens.append((tick, text))
        begins += size
    return screens


def plain_judge(numbers):
    try:
        return [len(plain_screens(numbers))]
    except PlainFault as fault:
        return [-2, fault.args[0], fault.args[1]]


def plain_cues(rows, end, numbers):
    try:
        screens = plain_screens(numbers)
    except PlainFault:
        return [-1]
    if rows not in range(1, 9) or end >= 2 ** 40:
        return [-1]
    count = 0
    told = []
    for (tick, text), after in zip(screens, screens[1:] + [(end, "")]):
        until = min(after[0], end)
        if text == "" or until <= tick:
            continue
        count += 1
        window = text.split("\n")[-rows:]
        told += [tick, until, len(window)]
        for row in window:
            told += [len(row.encode("utf-8"))] + list(row.encode("utf-8"))
    return [0, count] + told


def plain_answers(calls):
    """What the program is to answer, one list for each call."""
    captions = PlainCaptions()
    return [plain_answer(captions, call) for call in calls]


def plain_answer(captions, call):
    if call[0] == 0:
        return captions.begin(*call[1:])
    if call[0] == 1:
        size = call[2]
        return captions.feed(call[1], call[3:3 + size], call[4 + size:])
    if call[0] == 2:
        return captions.waiting()
    if call[0] == 3:
        return captions.next_one()
    if call[0] == 4:
        return captions.row(call[1])
    if call[0] == 5:
        return captions.state()
    if call[0] == 6:
        return plain_lay(call[1], call[3:])
    if call[0] == 7:
        return plain_pack(call[1], call[2], call[3], call[5:])
    if call[0] == 8:
        return plain_judge(call[2:])
    return plain_cues(call[1], call[2], call[4:])
