"""What will come of a row, told without writing it down: part by part, since parts never meddle."""

from readaloud.rows import read_aloud


# The part that the place lies in, and how far within it. None stands for a place behind the last part.
def part_at(parts, lengths, place):
    left = place
    for part in parts:
        if left < lengths[part]:
            return (part, left)
        left -= lengths[part]
    return None


# Keeps what comes of each part, since the same few parts come again and again.
class Future:
    def __init__(self, parting):
        self.parting = parting
        self.known = {}

    def parts_later(self, part):
        if part not in self.known:
            self.known[part] = self.parting.parts(read_aloud(part))
        return self.known[part]

    # For each day from today on the different parts that the row has then.
    def parts_by_day(self, parts, days):
        told = [list(dict([(part, True) for part in parts]))]
        for day in range(days):
            met = {}
            for part in told[day]:
                for child in self.parts_later(part):
                    met[child] = True
            told.append(list(met))
        return told

    # For each day from today on, and each part that the row has then: what the measure is of all that has come
    # of the part on the last day. It's added up from the last day back.
    def measured_by_day(self, parts, days, measure):
        by_day = self.parts_by_day(parts, days)
        now = dict([(part, measure(part)) for part in by_day[days]])
        told = [now]
        for day in range(days - 1, -1, -1):
            now = self.sums(by_day[day], now)
            told.append(now)
        told.reverse()
        return told

    def sums(self, parts, next_day):
        told = {}
        for part in parts:
            told[part] = sum([next_day[child] for child in self.parts_later(part)])
        return told

    def measured(self, row, days, measure):
        parts = self.parting.parts(row)
        today = self.measured_by_day(parts, days, measure)[0]
        return sum([today[part] for part in parts])

    def length_later(self, row, days):
        return self.measured(row, days, lambda part: len(part))

    def often_later(self, row, days, digit):
        return self.measured(row, days, lambda part: part.count(digit))

    # None stands for a place that the row won't have.
    def digit_later(self, row, days, place):
        parts = self.parting.parts(row)
        lengths = self.measured_by_day(parts, days, lambda part: len(part))
        found = part_at(parts, lengths[0], place)
        if found is None:
            return None
        for day in range(1, days + 1):
            found = part_at(self.parts_later(found[0]), lengths[day], found[1])
        return found[0][found[1]]
