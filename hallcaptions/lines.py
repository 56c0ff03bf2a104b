"""Lines: how a text is laid in lines of at most width characters.

A line depends on nothing before the place where it begins. So a text that changes only behind
some place is laid anew from near that place, and the lines before are kept.
"""

from hallcaptions.characters import LINE_FEED, SPACE

NO_PLACE = -1


# Keeps where it stands in the text, so that the lines before a change need not be laid again.
class Line:
    def __init__(self, begins, ends, characters, follows):
        self.begins = begins
        # The place behind its last word: spaces and a line feed may stand between it and follows.
        self.ends = ends
        self.characters = characters
        # Where the next line begins; NO_PLACE behind the last one.
        self.follows = follows


def spaces_stop(text, place, end):
    while place < end and text[place] == SPACE:
        place += 1
    return place


def word_stop(text, place, end):
    while place < end and text[place] != SPACE and text[place] != LINE_FEED:
        place += 1
    return place


def lay_line(text, begins, end, width):
    characters = []
    ends = begins
    place = spaces_stop(text, begins, end)
    while place < end and text[place] != LINE_FEED:
        # A longer word is cut here: its first piece fills a line, so the next never fits behind it.
        stop = word_stop(text, place, min(end, place + width))
        if characters:
            if len(characters) + 1 + stop - place > width:
                return Line(begins, ends, characters, place)
            characters.append(SPACE)
        characters.extend(text[place:stop])
        ends = stop
        place = spaces_stop(text, stop, end)
    return Line(begins, ends, characters, place + 1 if place < end else NO_PLACE)


# How many of the lines stay as they are if the text is another from place on, or ends there.
# The last line that begins up to place may lose its first word to the line before it (a word cut
# shorter may fit there), so these two are not settled.
def settled(lines, place):
    last = len(lines) - 1
    while last > 0 and lines[last].begins > place:
        last -= 1
    return max(0, last - 1)


# The lines from the one that begins at place on, of a text that ends at end, but none that begins
# behind far: what's not asked for yet may change before it is.
def lay_from(text, place, end, far, width):
    laid = []
    while place != NO_PLACE and place <= far:
        line = lay_line(text, place, end, width)
        laid.append(line)
        place = line.follows
    return laid


# The last line's end that isn't behind place, of lines laid as far as place; 0 if there is none.
# Between a line's last word and the next line stand only spaces and at most one line feed: behind
# each of these the lines so far are whole and there are more.
def last_line_end(lines, place):
    for line in reversed(lines):
        end = min(place, line.follows)
        if end > line.ends:
            return end
    return 0


def joined(rows):
    text = list(rows[0])
    for row in rows[1:]:
        text.append(LINE_FEED)
        text.extend(row)
    return text


def laid_text(text, width):
    lines = lay_from(text, 0, len(text), len(text), width)
    return joined([line.characters for line in lines])
