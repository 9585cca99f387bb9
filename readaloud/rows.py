"""Rows of digits, and what comes of them when they are read aloud."""

LONGEST = 65536
MOST_SET = 256
HIGHEST = 9


def runs(row):
    """Each run of one digit, as long as it goes: (how often, which)."""
    found = []
    start = 0
    for place in range(1, len(row) + 1):
        if place == len(row) or row[place] != row[start]:
            found.append((place - start, row[start]))
            start = place
    return found


def read_aloud(row):
    """The row a day later."""
    spoken = []
    for often, digit in runs(row):
        spoken.append(often)
        spoken.append(digit)
    return spoken


def later(row, days):
    """The row so many days later; None if it is too long on one of them."""
    now = list(row)
    for day in range(days):
        now = read_aloud(now)
        # Stopping at once keeps what is written down small, however many days are left.
        if len(now) > LONGEST:
            return None
    return now


def day_before(row):
    """The row that is read aloud as this one; None if there is none or it is too long."""
    if len(row) % 2 == 1:
        return None
    before = []
    for place in range(0, len(row), 2):
        digit = row[place + 1]
        # Two neighbouring runs of one digit would have been read as a single run.
        if place > 0 and row[place - 1] == digit:
            return None
        before.extend([digit] * row[place])
    if len(before) > LONGEST:
        return None
    return before


def may_be_set(digits):
    """Whether these digits may be a row to begin with."""
    if len(digits) < 1 or len(digits) > MOST_SET:
        return False
    if min(digits) < 1 or max(digits) > HIGHEST:
        return False
    # How often a digit stands in a run is itself written as one digit.
    return max([often for often, digit in runs(digits)]) <= HIGHEST
