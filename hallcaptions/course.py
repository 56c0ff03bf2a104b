"""The course of captions from a begin on: what's written, released, shown and told, tick by tick."""

from hallcaptions.bounds import rows_fit, width_fits
from hallcaptions.lines import last_line_end, lay_from, settled
from hallcaptions.tellings import change_between, clearing_at
from hallcaptions.written import nothing_written

MOST_TELLINGS = 256
MOST_PUT = 16384


class Rules:
    def __init__(self, width, rows, hold, idle, byline, blank):
        self.width = width
        self.rows = rows
        self.hold = hold
        self.idle = idle
        self.byline = byline
        self.blank = blank

    def allowed(self):
        if not width_fits(self.width) or not rows_fit(self.rows):
            return False
        if self.hold > 30000 or self.idle < self.hold or not 1 <= self.idle <= 600000:
            return False
        return self.byline <= 1 and self.blank <= 600000


# All that captions keep. Its lists are replaced, never changed, so a twin may share them.
class Course:
    def __init__(self, rules):
        self.rules = rules
        # Every tick below now has been gone through.
        self.now = 0
        self.written = nothing_written()
        self.released = 0
        self.gone = 0
        # The ticks of the last edit and of the last telling; 0 serves where there was none.
        self.edited = 0
        self.told = 0
        # The first of the laid lines of all that stands behind what's gone, released or not.
        self.lines = []
        # The rows on the screen, and how many of them are known to be those of the lines.
        self.screen = [[]]
        self.agreed = 0
        self.queue = []

    # Another course at the same point, to be tried and dropped if it's refused.
    def twin(self):
        other = Course(self.rules)
        other.now = self.now
        other.written = self.written
        other.released = self.released
        other.gone = self.gone
        other.edited = self.edited
        other.told = self.told
        other.lines = self.lines
        other.screen = self.screen
        other.agreed = self.agreed
        other.queue = self.queue
        return other

    def go_on(self, edits, now):
        for edit in edits:
            self.pass_ticks(edit.tick)
            self.take_in(edit)
        self.pass_ticks(now)

    # Tells nothing yet: more edits of the same tick may come.
    def take_in(self, edit):
        place = self.written.place_behind(edit.back)
        self.written = self.written.edited_by(edit)
        self.released = min(self.released, place)
        self.gone = min(self.gone, place)
        self.edited = edit.tick
        self.keep_lines(settled(self.lines, place))

    def keep_lines(self, count):
        self.lines = self.lines[:count]
        self.agreed = min(self.agreed, count)

    def lay_to(self, place):
        text = self.written.characters
        begin = self.begin_behind(len(self.lines))
        self.lines = self.lines + lay_from(text, begin, len(text), place, self.rules.width)

    # Where the line behind the first so many begins.
    def begin_behind(self, count):
        return self.lines[count - 1].follows if count > 0 else self.gone

    # Ticks may be far apart, so only those are gone through at which something may come about.
    def pass_ticks(self, until):
        tick = self.now
        # What's refused already need not be gone through further.
        while tick < until and not self.overfull():
            self.pass_tick(tick)
            tick = self.next_tick(tick, until)
        self.now = until

    # A tick behind this one, until at most: at none between the two can anything come about.
    def next_tick(self, tick, until):
        due = [self.edited + self.rules.idle, self.told + self.rules.blank]
        if self.told == tick:
            # A clearing moves the lines' ends, so more may be released at once.
            due.append(tick + 1)
        held = self.held_at(tick)
        if held < len(self.written.ticks):
            due.append(self.written.ticks[held] + self.rules.hold)
        soonest = until
        for at in due:
            if tick < at < soonest:
                soonest = at
        return soonest

    # How many characters were put at least hold ticks before.
    def held_at(self, tick):
        return self.written.count_put_by(tick - self.rules.hold)

    def pass_tick(self, tick):
        self.release(tick)
        before = self.screen
        known = self.show_released()
        change = change_between(before, self.screen, known, tick)
        if change.back > 0 or change.put:
            self.tell(change)
        elif self.is_stale(tick):
            self.tell(clearing_at(tick))
            self.clear_screen()

    def release(self, tick):
        if tick - self.edited >= self.rules.idle:
            self.released = len(self.written.characters)
            return
        self.released = max(self.released, self.last_end(self.held_at(tick)))

    def last_end(self, place):
        if self.rules.byline == 0:
            return self.written.word_ends[place]
        self.lay_to(place)
        return last_line_end(self.lines, place)

    # Answers how many of the screen's first rows are known to be those that were there before.
    def show_released(self):
        end = self.released
        self.lay_to(end)
        kept = settled(self.lines, end)
        known = min(self.agreed, kept)
        last = lay_from(self.written.characters, self.begin_behind(kept), end, end, self.rules.width)
        self.screen = self.screen[:known] + [line.characters for line in self.lines[known:kept] + last]
        self.agreed = kept
        return known

    def clear_screen(self):
        self.screen = [[]]
        self.gone = self.released
        self.keep_lines(0)

    def is_stale(self, tick):
        return 0 < self.rules.blank <= tick - self.told and self.screen != [[]]

    def tell(self, telling):
        self.queue = self.queue + [telling]
        self.told = telling.tick

    def overfull(self):
        put = sum([len(telling.put) for telling in self.queue])
        return len(self.queue) > MOST_TELLINGS or put > MOST_PUT

    def window(self):
        return self.screen[-self.rules.rows:]
