"""Tellings as bytes: how they are packed, and how bytes are judged and read as tellings."""

from hallcaptions.bounds import NUMBERS_END
from hallcaptions.characters import bytes_of, characters_of
from hallcaptions.tellings import CHANGE, CLEARING, Telling

# The kinds of a fault, in the order in which they come of one telling.
NO_TELLING = 1
WRONG_NUMBER = 2
BYTES_WANTING = 3
NOT_CHARACTERS = 4
TOO_MANY_BACK = 5
TICK_TOO_HIGH = 6
TELLS_NOTHING = 7


class Fault(ValueError):
    def __init__(self, kind, place):
        self.kind = kind
        self.place = place


def packed_number(number):
    sevens = []
    while number >= 128:
        sevens.append(number % 128 + 128)
        number = number // 128
    sevens.append(number)
    return sevens


def packed_change(ticks, back, text):
    return [CHANGE] + packed_number(ticks) + packed_number(back) + packed_number(len(text)) + text


def packed_clearing(ticks):
    return [CLEARING] + packed_number(ticks)


# How many bytes the number at place has; 0 if it's cut short or has a last byte 0 too many.
def number_size(numbers, place):
    last = place
    while last < len(numbers) and numbers[last] >= 128:
        last += 1
    if last == len(numbers) or (last > place and numbers[last] == 0):
        return 0
    return last + 1 - place


def number_of(sevens):
    number = 0
    for seven in reversed(sevens):
        number = number * 128 + seven % 128
    return number


# Bytes that are read one telling after another, up to the first fault.
class Unpacking:
    def __init__(self, numbers):
        self.numbers = numbers
        self.place = 0
        self.tellings = []
        # The tick of the last telling, and how many characters the screen's text has behind it.
        self.tick = 0
        self.length = 0

    def has_more(self):
        return self.place < len(self.numbers)

    def number(self):
        begins = self.place
        stop = begins + number_size(self.numbers, begins)
        value = number_of(self.numbers[begins:stop])
        if stop == begins or value >= NUMBERS_END:
            raise Fault(WRONG_NUMBER, begins)
        self.place = stop
        return value

    def characters_told(self):
        size = self.number()
        begins = self.place
        stop = begins + size
        if stop > len(self.numbers):
            raise Fault(BYTES_WANTING, len(self.numbers))
        characters = characters_of(self.numbers[begins:stop])
        read = len(bytes_of(characters))
        if read < size:
            raise Fault(NOT_CHARACTERS, begins + read)
        self.place = stop
        return characters

    def read_telling(self):
        begins = self.place
        kind = self.numbers[begins]
        if kind != CHANGE and kind != CLEARING:
            raise Fault(NO_TELLING, begins)
        self.place = begins + 1
        tick = self.tick + self.number()
        back = 0
        put = []
        if kind == CHANGE:
            back = self.number()
            put = self.characters_told()
        self.accept(Telling(kind, tick, back, put), begins)

    # Where it began is handed in, as that is the place of what's wrong with all of a telling.
    def accept(self, telling, begins):
        if telling.back > self.length:
            raise Fault(TOO_MANY_BACK, begins)
        if telling.tick >= NUMBERS_END:
            raise Fault(TICK_TOO_HIGH, begins)
        if self.tells_nothing(telling):
            raise Fault(TELLS_NOTHING, begins)
        self.tellings.append(telling)
        self.tick = telling.tick
        kept = self.length - telling.back if telling.kind == CHANGE else 0
        self.length = kept + len(telling.put)

    def tells_nothing(self, telling):
        if self.tellings and telling.tick == self.tick:
            return True
        if telling.kind == CLEARING:
            return self.length == 0
        return telling.back == 0 and not telling.put


# The tellings, or a Fault: the first there is.
def unpacked(numbers):
    unpacking = Unpacking(numbers)
    while unpacking.has_more():
        unpacking.read_telling()
    return unpacking.tellings
