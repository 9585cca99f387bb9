"""Rows of digits, and what comes of them when they are read aloud."""

LONGEST = 65536
MOST_SET = 256
HIGHEST = 9


def runs(row):
    found = []
    start = 0
    for place in range(1, len(row) + 1):
        if place == len(row) or row[place] != row[start]:
            found.append((place - start, row[start]))
            start = place
    return found


def read_runs(found):
    spoken = []
    for often, digit in found:
        spoken.append(often)
        spoken.append(digit)
    return spoken


def read_aloud(row):
    return read_runs(runs(row))


# None stands for a row that would be too long on one of the days.
def later(row, days):
    now = list(row)
    for day in range(days):
        now = read_aloud(now)
        # Stopping at once keeps what is written down small, however many days are left.
        if len(now) > LONGEST:
            return None
    return now


# None stands for a row that isn't there or would be too long: both are refused alike.
def day_before(row):
    if len(row) % 2 == 1:
        return None
    before = []
    for place in range(0, len(row), 2):
        digit = row[place + 1]
        # Two neighbouring runs of one digit would have been read as a single run.
        if place > 0 and row[place - 1] == digit:
            return None
        before.extend([digit] * row[place])
    if len(before) > LONGEST:
        return None
    return before


def may_be_set(digits):
    if len(digits) < 1 or len(digits) > MOST_SET:
        return False
    if min(digits) < 1 or max(digits) > HIGHEST:
        return False
    # How often a digit stands in a run is itself written as one digit.
    return max([often for often, digit in runs(digits)]) <= HIGHEST
