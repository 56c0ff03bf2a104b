"""What's written: its characters, when each was put, and where its words end."""

from hallcaptions.characters import LINE_FEED, SPACE


# A text that is never changed: an edit makes another, so whoever holds this one keeps it.
class Written:
    def __init__(self, characters, ticks, word_ends):
        self.characters = characters
        # Of each character the tick at which it was put: these never fall.
        self.ticks = ticks
        # Of each place, 0 among them, the last word's end that isn't behind it.
        self.word_ends = word_ends

    # Where an edit that takes so many back goes back to.
    def place_behind(self, back):
        return max(0, len(self.characters) - back)

    def edited_by(self, edit):
        place = self.place_behind(edit.back)
        word_ends = self.word_ends[:place + 1]
        for character in edit.put:
            if character == SPACE or character == LINE_FEED:
                word_ends.append(len(word_ends))
            else:
                word_ends.append(word_ends[-1])
        characters = self.characters[:place] + edit.put
        ticks = self.ticks[:place] + [edit.tick] * len(edit.put)
        return Written(characters, ticks, word_ends)

    # Ticks never fall along the text, so the characters put by a tick are a beginning of it.
    def count_put_by(self, tick):
        low = 0
        high = len(self.ticks)
        while low < high:
            middle = (low + high) // 2
            if self.ticks[middle] <= tick:
                low = middle + 1
            else:
                high = middle
        return low


def nothing_written():
    return Written([], [], [0])
