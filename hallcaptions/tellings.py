"""Tellings: what is told of a screen that changes."""

from hallcaptions.lines import joined

CHANGE = 1
CLEARING = 2


class Telling:
    def __init__(self, kind, tick, back, put):
        self.kind = kind
        self.tick = tick
        self.back = back
        self.put = put


def same_at_front(before, after, count, most):
    while count < most and before[count] == after[count]:
        count += 1
    return count


# Of two screens' rows, the first ones known to be the same. Whole rows are skipped before characters
# are, which is quicker; one row is left of each, as a line feed stands only between two.
def change_between(before, after, known, tick):
    skipped = same_at_front(before, after, known, min(len(before), len(after)) - 1)
    old = joined(before[skipped:])
    new = joined(after[skipped:])
    same = same_at_front(old, new, 0, min(len(old), len(new)))
    return Telling(CHANGE, tick, len(old) - same, new[same:])


def clearing_at(tick):
    return Telling(CLEARING, tick, 0, [])
