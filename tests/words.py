"""What the document's points say, said once more, as plainly as can be, to hold the program against.

Nothing here draws on the package: all windows are made anew from the events behind every deed, and
what stands is kept only as what was told and not told as gone behind that.
"""

import random


def starts_by_the_words(plan, time):
    """Point 4: the starts of the windows of a fixed or sliding plan that have the time in them."""
    length = plan[1]
    step = plan[2] if plan[0] == "sliding" else length
    start = time - time % step
    starts = []
    while time < start + length:
        starts.append(start)
        start -= step
    return starts


def spans_of_pauses(length, times):
    """Point 5: the windows that the times of one name's events give."""
    spans = []
    for time in sorted(times):
        if spans and time - last < length:
            spans[-1] = (spans[-1][0], time + length)
        else:
            spans.append((time, time + length))
        last = time
    return spans


def windows_by_the_words(plan, events):
    """Points 3 to 6: all windows of all names, by name and start."""
    windows = []
    for name in sorted({event[0] for event in events}):
        own = [event for event in events if event[0] == name]
        if plan[0] == "pauses":
            spans = spans_of_pauses(plan[1], [event[1] for event in own])
        else:
            starts = {start for event in own for start in starts_by_the_words(plan, event[1])}
            spans = [(start, start + plan[1]) for start in sorted(starts)]
        for start, end in spans:
            amounts = [event[2] for event in own if start <= event[1] < end]
            windows.append((name, start, end, len(amounts), sum(amounts)))
    return windows


class Story:
    """Points 7 to 13, deed by deed."""

    def __init__(self, plan):
        self.plan = plan
        self.grace = plan[-1]
        self.marks = []
        self.counted = []
        self.missed = []
        self.stands = {}

    def windows(self):
        return windows_by_the_words(self.plan, self.counted)

    def closed(self):
        return [window for window in self.windows() if self.marks and window[2] <= max(self.marks)]

    def kept(self):
        closed = self.closed()
        return [window + (window in closed,) for window in self.windows()
                if not self.marks or window[2] > max(self.marks) - self.grace]

    def standing(self):
        return sorted(self.stands.values())

    def do(self, deed):
        tells = self.mark(deed[1]) if deed[0] == "mark" else self.event(*deed[1:])
        for tell in tells:
            if tell[0] == "told":
                self.stands[tell[1:4]] = tell[1:]
            if tell[0] == "gone":
                del self.stands[tell[1:4]]
        return tells

    def mark(self, time):
        ahead = self.closed()
        self.marks.append(time)
        fresh = [window for window in self.closed() if window not in ahead]
        return [("told",) + window for window in sorted(fresh, key=lambda w: (w[2], w[1], w[0]))]

    def event(self, name, time, amount):
        if self.marks and time < max(self.marks) - self.grace:
            self.missed.append((name, time, amount))
            return [("missed", name, time, amount)]
        self.counted.append((name, time, amount))
        there = {window[:3] for window in self.windows()}
        gone = sorted(key for key in self.stands if key[0] == name and key not in there)
        told = [window for window in self.closed() if window[0] == name and window[1] <= time < window[2]]
        return [("gone",) + key for key in gone] + [("told",) + window for window in told]


def events_not_missed(plan, deeds):
    """Points 7 and 8 alone."""
    kept = []
    held = None
    for deed in deeds:
        if deed[0] == "mark":
            held = deed[1] if held is None else max(held, deed[1])
        elif held is None or not deed[2] < held - plan[-1]:
            kept.append(deed[1:])
    return kept, held


def replayed(told_lists):
    """Point 10: what stands behind the lists of what deeds told; each gone one must have stood."""
    stands = {}
    for tells in told_lists:
        for tell in tells:
            if tell[0] == "told":
                stands[tell[1:4]] = tell[1:]
            if tell[0] == "gone":
                del stands[tell[1:4]]
    return sorted(stands.values())


NAMES = ("", "a", "aa", "b", "B", "z", "a b", "\u00e4", "0", "mark")


def drawn_plan(drawer, scale=1):
    kind = drawer.choice(("fixed", "sliding", "pauses", "pauses"))
    length = drawer.randint(1, 12) * scale
    grace = drawer.choice((0, 0, 1, 2, 5, 9, 30)) * scale
    if kind == "sliding":
        return (kind, length, drawer.randint(1, 15) * scale, grace)
    return (kind, length, grace)


def drawn_deeds(drawer, many, names=3, width=40, scale=1, shift=0):
    """Time goes on by fits and starts; events come around it, early and late."""
    deeds = []
    now = -width // 2
    for _ in range(many):
        if drawer.random() < 0.3:
            now += drawer.randint(-2, 6)
            deeds.append(("mark", now * scale + shift + drawer.randint(-1, 1)))
        else:
            time = (now + drawer.randint(-14, 10)) * scale + shift + drawer.choice((-1, 0, 0, 0, 1))
            deeds.append(("event", drawer.choice(NAMES[:names]), time, drawer.randint(-5, 9) * scale))
    return deeds


def drawer_for(seed):
    return random.Random(seed)
