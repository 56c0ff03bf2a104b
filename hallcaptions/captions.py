"""Captions, and the answers to a list of calls on them."""

from hallcaptions.alone import cues, judge, lay, pack
from hallcaptions.characters import bytes_of
from hallcaptions.counts import counted
from hallcaptions.course import Course, Rules
from hallcaptions.edits import edits_of, greatest_length, in_order, puts_all, sizes_fit

MOST_WRITTEN = 16384


class UnknownCall(ValueError):
    pass


# What the calls are made on. Each answers a list: its number, then what it tells.
class Captions:
    def __init__(self):
        # None until a begin has answered 0.
        self.course = None

    def begin(self, rules):
        if not rules.allowed():
            return [-1]
        self.course = Course(rules)
        return [0]

    def feed(self, now, numbers, text):
        if self.course is None:
            return [-9]
        if not sizes_fit(numbers, text):
            return [-1]
        edits = edits_of(numbers, text)
        if not puts_all(edits, text) or not in_order(edits, self.course.now, now):
            return [-1]
        if greatest_length(len(self.course.written.characters), edits) > MOST_WRITTEN:
            return [-2]
        # A twin is fed, so that a feed that would let too much wait leaves no trace.
        course = self.course.twin()
        course.go_on(edits, now)
        if course.overfull():
            return [-4]
        self.course = course
        return [0]

    def waiting(self):
        if self.course is None:
            return [-9]
        return [len(self.course.queue)]

    def next_one(self):
        if self.course is None:
            return [-9]
        if not self.course.queue:
            return [-3]
        telling = self.course.queue[0]
        self.course.queue = self.course.queue[1:]
        return [0, telling.kind, telling.tick, telling.back] + counted(bytes_of(telling.put))

    def row(self, which):
        if self.course is None:
            return [-9]
        window = self.course.window()
        if which >= len(window):
            return [-1]
        return [0] + counted(bytes_of(window[which]))

    def state(self):
        if self.course is None:
            return [-9]
        written = len(self.course.written.characters)
        return [0, written, self.course.released, self.course.gone, self.course.told, self.course.now]


# Keeps the place up to which a list of calls is read, so that the list itself stays as it is.
class Reader:
    def __init__(self, numbers):
        self.numbers = numbers
        self.place = 0

    def has_more(self):
        return self.place < len(self.numbers)

    def number(self):
        self.place += 1
        return self.numbers[self.place - 1]

    def counted_row(self):
        size = self.number()
        begin = self.place
        self.place = begin + size
        return self.numbers[begin:self.place]


def read_rules(reader):
    width = reader.number()
    rows = reader.number()
    hold = reader.number()
    idle = reader.number()
    byline = reader.number()
    blank = reader.number()
    return Rules(width, rows, hold, idle, byline, blank)


def answer_feed(captions, reader):
    now = reader.number()
    numbers = reader.counted_row()
    text = reader.counted_row()
    return captions.feed(now, numbers, text)


def answer_lay(reader):
    width = reader.number()
    return lay(width, reader.counted_row())


def answer_pack(reader):
    clear = reader.number()
    ticks = reader.number()
    back = reader.number()
    return pack(clear, ticks, back, reader.counted_row())


def answer_cues(reader):
    rows = reader.number()
    end = reader.number()
    return cues(rows, end, reader.counted_row())


def answer_alone(call, reader):
    if call == 6:
        return answer_lay(reader)
    if call == 7:
        return answer_pack(reader)
    if call == 8:
        return judge(reader.counted_row())
    if call == 9:
        return answer_cues(reader)
    raise UnknownCall("no call has this number")


def answer_call(captions, reader):
    call = reader.number()
    if call == 0:
        return captions.begin(read_rules(reader))
    if call == 1:
        return answer_feed(captions, reader)
    if call == 2:
        return captions.waiting()
    if call == 3:
        return captions.next_one()
    if call == 4:
        return captions.row(reader.number())
    if call == 5:
        return captions.state()
    return answer_alone(call, reader)


# Each time on new captions: nothing is kept from one list of calls to the next.
def answers(calls):
    captions = Captions()
    reader = Reader(calls)
    told = []
    while reader.has_more():
        told.extend(counted(answer_call(captions, reader)))
    return told
