"""The desk does deeds one by one, and keeps the windows that they give."""

from weirgauge.plans import check_plan, spans_at
from weirgauge.rows import MARK, PAUSES, grace_of, kind_of


# Its windows are a dict: the keys are (name, start, end), and the values are
# tallies (count, sum), so that a key and its tally put together are a row.
#
# Closed windows and those that stand are the same ones behind every deed: what
# a mark closes is told at once, and so is what an event makes or changes among
# the closed ones. So no list is kept of the windows that stand.
class Desk:
    def __init__(self, plan):
        check_plan(plan)
        self.plan = plan
        self.mark = None
        self.windows = {}
        self.missed = []

    def rows(self):
        return sorted([key + tally for key, tally in self.windows.items()])

    def is_closed(self, end):
        return self.mark is not None and end <= self.mark

    def is_kept(self, end):
        return self.mark is None or end > self.mark - grace_of(self.plan)

    def is_too_late(self, time):
        return self.mark is not None and time < self.mark - grace_of(self.plan)

    def do(self, deed):
        if deed[0] == MARK:
            return self.take_mark(deed[1])
        return self.take_event(deed[1], deed[2], deed[3])

    def take_mark(self, time):
        if self.mark is not None and time <= self.mark:
            return []
        told = [("told",) + key + tally for key, tally in self.windows.items()
                if key[2] <= time and not self.is_closed(key[2])]
        self.mark = time
        return sorted(told, key=lambda row: (row[3], row[2], row[1]))

    def take_event(self, name, time, amount):
        if self.is_too_late(time):
            self.missed.append((name, time, amount))
            return [("missed", name, time, amount)]
        keys = [(name,) + span for span in spans_at(self.plan, time)]
        met = []
        if kind_of(self.plan) == PAUSES:
            met = self.keys_met_by(keys[0])
            keys = [joined(met + keys)]
            self.move_tallies(met, keys[0])
        for key in keys:
            self.add_tally(key, (1, amount))
        gone = [("gone",) + key for key in met if key not in keys and self.is_closed(key[2])]
        told = [("told",) + key + self.windows[key] for key in keys if self.is_closed(key[2])]
        return gone + told

    # By a plan of pauses a window ends a length beyond its last event: so an
    # event joins just those windows that the one it has alone overlaps.
    def keys_met_by(self, alone):
        return sorted([key for key in self.windows
                       if key[0] == alone[0] and key[1] < alone[2] and alone[1] < key[2]])

    def move_tallies(self, keys, target):
        for key in keys:
            self.add_tally(target, self.windows.pop(key))

    def add_tally(self, key, tally):
        ahead = self.windows.get(key, (0, 0))
        self.windows[key] = (ahead[0] + tally[0], ahead[1] + tally[1])


def joined(keys):
    return (keys[0][0], min([key[1] for key in keys]), max([key[2] for key in keys]))
